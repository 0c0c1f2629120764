import PyProof.Rows.All
import Wide.All
import OpenK.AllK
import Wide.FinOn
import PyProof.EqAt
import PyProof.EqKinds
import PyProof.TupleCall
import Open.SpecLaws
import KE.OsGo
import HandS.ForSpec
import HandS.ExcSuper
import HandS.ExcField
import HandS.ExcCtx
import HandS.Hot
import HandS.HotCalls
import HandS.SuiteRaise
import HandS.RaiseFrom
import HandS.ExcInit
import HandS.ExcInitHot
import PatSpec
import HandS.ForMost
import HandS.Walk
import HandS.More
import HandS.WideBits
import HandS.Text
import HandS.Flow
import PySem.Challenge.RW_toldpatterns_s04_find
import HandS.Deep
import HandS.Rev
set_option Elab.async false
set_option linter.all false
set_option maxRecDepth 100000
set_option maxHeartbeats 8000000
section
/-! # An own error over Exception whose __init__ stores two fields, kind and place: made, raised (after skel/42_own_error_by_import) -/
namespace PySem
namespace FaultX
open PySem.W PySem.Calls PyProof.Rows PySem.HandSPX
def iA (p1 p2 p3 : Pos) : Arguments := { posonlyargs := [], args := [{ arg := "self", annotation := none, pos := p1 }, { arg := "kind", annotation := none, pos := p2 }, { arg := "place", annotation := none, pos := p3 }], vararg := none, kwonlyargs := [], kw_defaults := [], kwarg := none, defaults := [] }
def iB (q1 q2 q3 q4 q5 q6 q7 q8 : Pos) : List Stmt := [.Assign [.Attribute (.Name "self" q1) "kind" q2] (.Name "kind" q3) q4, .Assign [.Attribute (.Name "self" q5) "place" q6] (.Name "place" q7) q8]
def iS : Scope := { kind := .function, names := [(PySem.Str.ofString "self", .local), (PySem.Str.ofString "kind", .local), (PySem.Str.ofString "place", .local)], isGenerator := false, isCoroutine := false, more := [] }
/-- what the written part says of Fault, at C, and of its __init__, at fI -/
structure FaultTxt (K : Frag) (mg : Str → Option Value) (C fI : Addr) : Prop where
  gC : mg "Fault" = some (.ref C)
  cls : ∃ nm q N bs sn sub ab col dd k0 k1 k2 k3 k5, K.lookup C = some (excClassObj nm q C N bs ESX.exTail true sn sub ab col dd k0 k1 k2 k3 k5 "Exception.__new__")
  sa : findIn K (.ref C) "__setattr__" = some (some (.builtin "object.__setattr__"))
  xf : L2.XfC K C
  noK : findIn K (.ref C) "kind" = some none
  noP : findIn K (.ref C) "place" = some none
  iC : findIn K (.ref C) "__init__" = some (some (.ref fI))
  tC : typeIn K (.ref fI) = some (.type "function")
  kC : keepIn K (.ref C) = true
  exC : subIn K (.ref C) (.type "BaseException") = some true
  tyC : typeIn K (.ref C) = some (.type "type")
  te : exmOne K (.ref C) (.ref C) = some true
  fn : ∃ (oc : Value) (od : Option Addr) (doc pm : Value) (an : Option Addr) (cdv ct : Value) (osl : Array (Option Value)) (p1 p2 p3 q1 q2 q3 q4 q5 q6 q7 q8 : Pos),
    K.lookup fI = some ⟨oc, od, .func (fnOf "__init__" "Fault.__init__" (iA p1 p2 p3) (iB q1 q2 q3 q4 q5 q6 q7 q8) iS .none .none doc pm an cdv ct), osl⟩ ∧ codeIn K cdv "Fault.__init__" = true
theorem two_size (v v2 : Value) : [v, v2].length ≤ sizeLine := by
  rw [sizeLine_eq]
  exact (by decide : 2 ≤ 16777216)
theorem kept_but {K : Frag} {h h' : Heap} {x : Addr} (X : K.In h) (hx : K.lookup x = none) (k : ∀ b o, b ≠ x → h.get? b = some o → h'.get? b = some o) : K.In h' := fun a o e =>
  k a o (fun z => by rw [z, hx] at e; cases e) (X a o e)
theorem ldC {M : Model} {s : Shared} {name : Str} {scope : Scope} {L a : Addr} {cd : Value} {m : Str → Option Value} {x : Str} {pos : Pos} {v : Value} {Q : Value → Shared → Prop} {A : Around} {E : Value → Shared → Prop} (hn : s.heap.Ns L m) (hv : m x = some v) (h : Q v s)
    (hk : scope.kind = .function := by rfl) (hl : (envOfC name scope L a cd).kindOf x = some .local := by rfl) (hd : (x == ("__debug__" : Str)) = false := by decide) :
    wpAny M A (eval (.Name x pos) (envOfC name scope L a cd)) Q E s := wpAny_Name (wpAny_loadName_local hk hl hn hv h) hd
def two (v v2 : Value) : Str → Option Value := fun y => if y = "place" then some v2 else if y = "kind" then some v else none
/-- what __init__ leaves of a fresh exception at x -/
structure InitEnd (h h' : Heap) (x C dx t1 : Addr) (v v2 : Value) : Prop where
  keep : ∀ b o, b ≠ x → h.get? b = some o → h'.get? b = some o
  obj : h'.get? x = some { cls := .ref C, dict := some dx, data := .fields #[.ref t1, .none, .none, .none, .bool false, .none] }
  dbig : h.objs.size ≤ dx
  dne : dx ≠ x
  ns : h'.Ns1 dx (two v v2)
/-- a made Fault -/
structure OwnMade (h h' : Heap) (e C d : Addr) (v v2 : Value) : Prop where
  keep : ∀ b o, h.get? b = some o → h'.get? b = some o
  new : h.objs.size ≤ e
  obj : ∃ oe vs, h'.get? e = some oe ∧ oe.cls = .ref C ∧ oe.dict = some d ∧ oe.data = .fields vs ∧ vs[1]? = some .none ∧ vs[2]? = some .none
  dbig : h.objs.size ≤ d
  dne : d ≠ e
  ns : h'.Ns1 d (two v v2)
section
variable {prog : Program} {w : World} {A : Around} {E : Value → Shared → Prop} {R : Result → Shared → Prop} {s : Shared} {K : Frag} {mg : Str → Option Value} {C fI : Addr}
theorem fault_init (T : FaultTxt K mg C fI) {x t0 : Addr} {v v2 : Value} (X : K.In s.heap) (hlim : s.heap.NoLimit) (hx : s.heap.get? x = some (excO C t0)) (hnx : K.lookup x = none) (hroom : A.depth < recursionLimit)
    (hq : ∀ h' tk dx, InitEnd s.heap h' x C dx t0 v v2 → R (.ok (.ret .none)) { s with heap := h', toks := tk }) :
    codeAny (model prog w) A (.call (.ref fI) ⟨[.ref x, v, v2], []⟩) R s := by
  obtain ⟨oc, od, doc, pm, an, cdv, ct, osl, p1, p2, p3, q1, q2, q3, q4, q5, q6, q7, q8, ho, hcd⟩ := T.fn
  obtain ⟨nm, q, N, bs, sn, sub, ab, col, dd, k0, k1, k2, k3, k5, hC⟩ := T.cls
  have hcl : clsIn K C = some { name := nm, bases := bs, mro := .ref C :: ESX.exTail, ns := N, qualname := q, hasDict := true, slotNames := sn, subclasses := sub, abstract := ab, collection := col, hasDel := false } := by unfold clsIn; rw [hC] <;> rfl
  refine Att.call_fn (binds := [("self", .ref x), ("kind", v), ("place", v2)]) X hlim ho hcd hroom (BindsTo.of_eq (by first | rfl | with_unfolding_all rfl)) (by first | rfl | decide | with_unfolding_all rfl) (fun s₁ IC => ?_) rfl rfl rfl
  obtain ⟨h₁, tk₁, rfl⟩ := IC.toInCall.same
  have k : ∀ b o, s.heap.get? b = some o → h₁.get? b = some o := IC.toInCall.keep
  have hn := IC.toInCall.ns
  have hxL : s.heap.objs.size ≠ x := Nat.ne_of_gt (Heap.lt_size hx)
  have X₁ : K.In h₁ := X.keeps k
  have hx₁ := k _ _ hx
  -- self.kind = kind
  show wpAny _ _ (execs _ _) _ _ _
  refine wpAny_execs_cons (plainObj_wpAny_Assign_Attribute ?_)
  refine ldC (v := v) hn (by first | rfl | with_unfolding_all rfl | kernel_rfl) (ldC (v := .ref x) hn (by first | rfl | with_unfolding_all rfl | kernel_rfl) ?_)
  refine set_plain X₁ (ox := excO C t0) (od := none) ⟨hx₁, rfl, rfl, trivial⟩ T.sa ?_
  refine ESX.osa_new X₁ hx₁ hcl rfl rfl T.noK (fun h₃ tk₃ dx k₃ dn dne hx₃ hn₃ => ?_)
  have z : s.heap.objs.size < h₁.objs.size := hn.lt
  have hnL : h₃.Ns s.heap.objs.size _ := hn.at (fun o e => k₃ _ o hxL e)
  have X₃ : K.In h₃ := kept_but X₁ hnx k₃
  obtain ⟨oD, _, _, hoD, _, _⟩ := hn₃.count (Within.cons "kind" v Within.nil)
  -- self.place = place
  show wpAny _ _ (execs _ _) _ _ _
  refine wpAny_execs_cons (plainObj_wpAny_Assign_Attribute ?_)
  refine ldC (v := v2) hnL (by first | rfl | with_unfolding_all rfl | kernel_rfl) (ldC (v := .ref x) hnL (by first | rfl | with_unfolding_all rfl | kernel_rfl) ?_)
  refine set_plain X₃ (ox := { cls := .ref C, dict := some dx, data := .fields #[.ref t0, .none, .none, .none, .bool false, .none] }) (od := some oD) ⟨hx₃, rfl, rfl, hoD⟩ T.sa ?_
  refine ESX.osa_old X₃ hx₃ hn₃ (Within.cons "kind" v Within.nil) (by decide) hcl rfl rfl T.noP (fun h₄ tk₄ k₄ hn₄ => ?_)
  show wpAny _ _ (execs _ _) _ _ _
  have dold : ∀ b o, s.heap.get? b = some o → b ≠ dx := fun b o e => Nat.ne_of_lt (Nat.lt_of_lt_of_le (Nat.lt_trans (Heap.lt_size e) z) dn)
  exact wpAny_execs_nil (hq h₄ tk₄ dx ⟨fun b o hb e => k₄ b o (dold b o e) (k₃ b o hb (k b o e)), k₄ _ _ (Ne.symm dne) hx₃, Nat.le_of_lt (Nat.lt_of_lt_of_le z dn), dne, hn₄⟩)
theorem fault_made (T : FaultTxt K mg C fI) {v v2 : Value} (X : K.In s.heap) (hlim : s.heap.NoLimit) (hroom : A.depth + 1 < recursionLimit)
    (hq : ∀ h' tk e d, OwnMade s.heap h' e C d v v2 → R (.ok (.ret (.ref e))) { s with heap := h', toks := tk }) :
    codeAny (model prog w) A (.call (.ref C) ⟨[v, v2], []⟩) R s := by
  obtain ⟨nm, q, N, bs, sn, sub, ab, col, dd, k0, k1, k2, k3, k5, hC⟩ := T.cls
  obtain ⟨hp, g, dr, tk, os⟩ := s
  have k : ∀ b o, hp.get? b = some o → ((hp.push (kdv_tup [v, v2])).push (excO C hp.objs.size)).get? b = some o := fun b o e => Heap.get?_push_of_some _ (Heap.get?_push_of_some _ e)
  have hget : ((hp.push (kdv_tup [v, v2])).push (excO C hp.objs.size)).get? (hp.objs.size + 1) = some (excO C hp.objs.size) := by heap_get
  have hnx : K.lookup (hp.objs.size + 1) = none := by
    cases e : K.lookup (hp.objs.size + 1) with
    | none => rfl
    | some o =>
      have z : hp.get? (hp.objs.size + 1) = some o := X _ _ e
      exact absurd (Nat.lt_of_succ_lt (Heap.lt_size z)) (Nat.lt_irrefl _)
  refine call_own F.excBase_Exception (fun X => rfl) (X _ _ hC) (looks_findIn X T.iC) (fun self => bind_fn X self T.tC) (two_size v v2) ?_
  refine fault_init (s := ⟨(hp.push (kdv_tup [v, v2])).push (excO C hp.objs.size), g, dr, tk, os⟩) T (X.keeps k) (hlim.keeps k) hget hnx ?_ fun h' tk' dx ⟨k', hx, dn, dne, hns⟩ => ?_
  · show A.depth + 1 < recursionLimit
    exact hroom
  · have old : ∀ b o, hp.get? b = some o → h'.get? b = some o := fun b o e => k' b o (Nat.ne_of_lt (Nat.lt_succ_of_lt (Heap.lt_size e))) (k b o e)
    have z : hp.objs.size + 1 + 1 ≤ dx := by
      first
        | (simpa only [Heap.size_push] using dn)
        | exact dn
        | (have q := dn; rw [Heap.size_push, Heap.size_push] at q; exact q)
    exact ⟨rfl, hq h' tk' (hp.objs.size + 1) dx ⟨old, Nat.le_succ _, ⟨_, _, hx, rfl, rfl, rfl, rfl, rfl⟩, Nat.le_trans (Nat.le_trans (Nat.le_succ _) (Nat.le_succ _)) z, dne, hns⟩⟩
end
end FaultX
end PySem
namespace L2
open PySem PySem.Spec PyProof.Rows
/-- the fields of a Fault -/
def faultF (v v2 : V) : List (Str × V) := [(("kind" : Str), v), (("place" : Str), v2)]
theorem faultF_kind (v v2 : V) : (faultF v v2).lookup ("kind" : Str) = some v := by simp [faultF, List.lookup]
theorem faultF_place (v v2 : V) : (faultF v v2).lookup ("place" : Str) = some v2 := by
  have e : (("place" : Str) == ("kind" : Str)) = false := by decide +kernel
  simp [faultF, List.lookup, e]
theorem relO_fault {v v2 : V} {u u2 : Value} (r : RelV v u) (r2 : RelV v2 u2) (f : Str) : RelO (List.lookup f (faultF v v2)) (PySem.FaultX.two u u2 f) := by
  unfold PySem.FaultX.two
  by_cases hp : f = "place"
  · subst hp
    rw [if_pos rfl, faultF_place]
    exact r2
  · rw [if_neg hp]
    by_cases hk : f = "kind"
    · subst hk
      rw [if_pos rfl, faultF_kind]
      exact r
    · rw [if_neg hk]
      have q1 : (f == ("place" : Str)) = false := by simpa using hp
      have q2 : (f == ("kind" : Str)) = false := by simpa using hk
      have q3 : List.lookup f (faultF v v2) = none := by simp [faultF, List.lookup, q1, q2]
      rw [q3]
      trivial
section
variable {X : Cx} {C fI : Addr}
/-- Fault(a, b) -/
def tMkFault (C : Addr) (ta : TA) : St → Hp → XK → Prop := fun σ H Q => ta σ H fun vs H1 => ∃ v v2, vs = [v, v2] ∧ ∀ d, H1 d = none → Q (.ref C) (some d) (upd H1 d (.xd (faultF v v2)))
theorem pmk_fault {a b : Expr} {ta : TA} {p pos : Pos} {k : Nat} (T : PySem.FaultX.FaultTxt X.K X.mg C fI) (hr : Room k X.A) (ha : PA X [a, b] ta) (hg : Gl X "Fault" := by rfl)
    (he : starEach [a, b] X.env = (false, eval a X.env) :: starEach [b] X.env := by rfl) (hpl : (backTo pos (starEach [b] X.env)).any (·.1) = false := by rfl) :
    L2N.PMk X (.Call (.Name "Fault" p) [a, b] [] pos) (tMkFault C ta) := by
  intro pins s σ H Q I h
  refine wpAny_Call_Name_kw (ld_glob I hg T.gC ?_)
  refine PySem.W.callWith_K (h₀ := X.base) I.ok.mod.kin T.kC (thn (ha.run pos pins s σ H _ I h) fun us s1 hh => ?_) he hpl
  obtain ⟨vs, H1, I1, r1, v, v2, ev, q1⟩ := hh
  subst ev
  refine ⟨I1.kIn, ?_⟩
  cases r1 with
  | cons rv rn =>
    rename_i v' us'
    cases rn with
    | cons rv2 rn2 =>
      rename_i v2' us2
      cases rn2
      show wpAny _ _ (call (.ref C) [v', v2']) _ _ _
      have hlim := I1.nolimit
      obtain ⟨hp, g, dr, tk, os⟩ := s1
      refine wpAny_call (PySem.FaultX.fault_made T I1.kIn hlim (by have := hr.dp; omega) fun h' tk' e d M => ?_)
      show L2N.MkP X pins σ Q (.ref e) ⟨h', g, dr, tk', os⟩
      obtain ⟨oe, fv, hoe, hc, hd, hdat, h1, h2⟩ := M.obj
      have hns := M.ns
      obtain ⟨G', g1, g2⟩ := restrict h' fun b => decide (b ≠ e)
      have gk : ∀ b, b ≠ e → G'.get? b = h'.get? b := fun b hb => g1 b (decide_eq_true hb)
      have ge : G'.get? e = none := g2 e (by simp)
      have old : ∀ b o, hp.get? b = some o → G'.get? b = some o := fun b o q => (gk b (Nat.ne_of_lt (Nat.lt_of_lt_of_le (Heap.lt_size q) M.new))).trans (M.keep b o q)
      have ob : ObjOk X.prog X.w (upd H1 d (.xd (faultF v v2))) G' d (.xd (faultF v v2)) :=
        ⟨_, hns.at (fun o q => (gk d M.dne).trans q), fun f => relO_fault rv rv2 f⟩
      have J : Inv X pins σ (upd H1 d (.xd (faultF v v2))) ⟨G', g, dr, tk', os⟩ := I1.laid (t' := tk') old M.dbig ob
      refine ⟨e, oe, fv, ⟨G', g, dr, tk', os⟩, _, .ref C, some d, rfl, J, fun b o q => ?_, ge, hoe, ⟨hc, hd, fun vs q => by rw [hdat] at q; cases q; exact h2⟩, hdat, h1, ?_, rfl, I1.bare, raises_own T.exC T.tyC, q1 d (I1.hok.fresh M.dbig)⟩
      · by_cases hb : b = e
        · have q' : G'.get? b = some o := q
          rw [hb, ge] at q'; cases q'
        · exact (gk b hb).symm.trans q
      · rw [upd_ne (Ne.symm M.dne)]
        exact I1.hok.fresh M.new
/-- raise Fault(a, b) -/
def tRaiseFault (C : Addr) (W : WX) (ta : TA) : TS := fun _ σ H => tMkFault C ta σ H fun cls d H' => W cls d σ H'
theorem ps_raiseFault {a b : Expr} {ta : TA} {W : WX} {p pos pos2 : Pos} {k : Nat} (hc : X.calm = true) (T : PySem.FaultX.FaultTxt X.K X.mg C fI) (hr : Room k X.A) (tk : L2N.Takes X W) (ha : PA X [a, b] ta) (hg : Gl X "Fault" := by rfl)
    (he : starEach [a, b] X.env = (false, eval a X.env) :: starEach [b] X.env := by rfl) (hpl : (backTo pos (starEach [b] X.env)).any (·.1) = false := by rfl) :
    PS X (.Raise (some (.Call (.Name "Fault" p) [a, b] [] pos)) none pos2) (tRaiseFault C W ta) := L2N.ps_raise hc tk (pmk_fault T hr ha hg he hpl)
end
/-! ### what is known of an exception's context may be forgotten -/
theorem cxN {P : Program} {w : World} {outer : List Env} {H : Hp} {s s' : Shared} {E : XK} {u : Value} (h : L2N.CX P w outer H s E u s') : L2.CX P w outer H s E u s' := by
  obtain ⟨a, B, H', cls, d, e, fl, r⟩ := h
  exact ⟨a, B, H', cls, d, e, L2H.flyingZ_imp (fun o z => z.zc) fl, r⟩
theorem FnOk.ofN {P : Program} {w : World} {K : PySem.W.Frag} {mg : Str → Option Value} {base : Heap} {k : Nat} {f : Addr} {fd : FuncData} {ps : List Str} {sp : Sp} (F : FnOk P w K mg base (L2N.CX P w) k f fd ps sp) : FnOk P w K mg base (L2.CX P w) k f fd ps sp :=
  ⟨F.len, fun A outer s H args us vs Q E hr he hb hv hs => codeAny_mono (F.run A outer s H args us vs Q E hr he hb hv hs) fun r s' h => by
    cases r with
    | ok fl => cases fl <;> exact h
    | error e => exact cxN h⟩
theorem pmkN {X : Cx} {e : Expr} {t : St → Hp → XK → Prop} (h : L2N.PMk X e t) : PMk X e t := fun pins s σ H Q I q => thn (h pins s σ H Q I q) fun _ _ x => by
  obtain ⟨a, oe, vs, sI, H', cls, d, e1, J, k, hn, ha, hz, r⟩ := x
  exact ⟨a, oe, vs, sI, H', cls, d, e1, J, k, hn, ha, hz.zc, r⟩
/-- as Fun.okX: the context of what is raised is None -/
theorem Fun.okN {P : Program} {w : World} {K : PySem.W.Frag} {mg : Str → Option Value} {base : Heap} {x qual : Str} {st : Stmt} {f : Addr} {fd : FuncData} {N ps : List Str} {k : Nat} {sp : Sp} (F : Fun K x qual st f fd) (S : FnScope N ps (defScope st)) (len : ∀ vs H Q E, sp vs H Q E → vs.length = ps.length)
    (hbody : ∀ (cdv : Value) (A : Around) (outer : List Env) (s : Shared) (H : Hp) (vs : List V) (Q : VK) (E : XK), Room k (A.deeper (envOfC qual (defScope st) s.heap.objs.size f cdv)) → sp vs H Q E →
      ∃ t, PSs (cxOf (L2N.CX P w) P w K mg base N qual (defScope st) f cdv A outer s H E) (defBody st) t ∧ t { nx := fun _ H' => Q .non H', rt := Q } (start N vs) H) : FnOk P w K mg base (L2N.CX P w) (k + 1) f fd ps sp := by
  obtain ⟨oc, od, kV, doc, pm, an, cdv, ct, osl, rfl, lk, hcd⟩ := F.ex
  exact fn_of lk hcd S len fun A outer s H vs Q E hr hsp => hbody cdv A outer s H vs Q E hr hsp
end L2
end

section
/-! # An own error over Exception whose __init__ stores one field, answer: made, raised, in an except suite too -/
namespace PySem
namespace RefX
open PySem.W PySem.Calls PyProof.Rows PySem.HandSPX
open PySem.FaultX (kept_but ldC)
def iA (p1 p2 : Pos) : Arguments := { posonlyargs := [], args := [{ arg := "self", annotation := none, pos := p1 }, { arg := "answer", annotation := none, pos := p2 }], vararg := none, kwonlyargs := [], kw_defaults := [], kwarg := none, defaults := [] }
def iB (q1 q2 q3 q4 : Pos) : List Stmt := [.Assign [.Attribute (.Name "self" q1) "answer" q2] (.Name "answer" q3) q4]
def iS : Scope := { kind := .function, names := [(PySem.Str.ofString "self", .local), (PySem.Str.ofString "answer", .local)], isGenerator := false, isCoroutine := false, more := [] }
/-- what the written part says of Refusal, at C, and of its __init__, at fI -/
structure RefTxt (K : Frag) (mg : Str → Option Value) (C fI : Addr) : Prop where
  gC : mg "Refusal" = some (.ref C)
  cls : ∃ nm q N bs sn sub ab col dd k0 k1 k2 k3 k5, K.lookup C = some (excClassObj nm q C N bs ESX.exTail true sn sub ab col dd k0 k1 k2 k3 k5 "Exception.__new__")
  sa : findIn K (.ref C) "__setattr__" = some (some (.builtin "object.__setattr__"))
  xf : L2.XfC K C
  noA : findIn K (.ref C) "answer" = some none
  iC : findIn K (.ref C) "__init__" = some (some (.ref fI))
  tC : typeIn K (.ref fI) = some (.type "function")
  kC : keepIn K (.ref C) = true
  exC : subIn K (.ref C) (.type "BaseException") = some true
  tyC : typeIn K (.ref C) = some (.type "type")
  te : exmOne K (.ref C) (.ref C) = some true
  fn : ∃ (oc : Value) (od : Option Addr) (doc pm : Value) (an : Option Addr) (cdv ct : Value) (osl : Array (Option Value)) (p1 p2 q1 q2 q3 q4 : Pos),
    K.lookup fI = some ⟨oc, od, .func (fnOf "__init__" "Refusal.__init__" (iA p1 p2) (iB q1 q2 q3 q4) iS .none .none doc pm an cdv ct), osl⟩ ∧ codeIn K cdv "Refusal.__init__" = true
theorem one_size (v : Value) : [v].length ≤ sizeLine := by
  rw [sizeLine_eq]
  exact (by decide : 1 ≤ 16777216)
def one (v : Value) : Str → Option Value := fun y => if y = "answer" then some v else none
structure InitEnd (h h' : Heap) (x C dx t1 : Addr) (v : Value) : Prop where
  keep : ∀ b o, b ≠ x → h.get? b = some o → h'.get? b = some o
  obj : h'.get? x = some { cls := .ref C, dict := some dx, data := .fields #[.ref t1, .none, .none, .none, .bool false, .none] }
  dbig : h.objs.size ≤ dx
  dne : dx ≠ x
  ns : h'.Ns1 dx (one v)
/-- a made Refusal -/
structure OwnMade (h h' : Heap) (e C d : Addr) (v : Value) : Prop where
  keep : ∀ b o, h.get? b = some o → h'.get? b = some o
  new : h.objs.size ≤ e
  obj : ∃ oe vs, h'.get? e = some oe ∧ oe.cls = .ref C ∧ oe.dict = some d ∧ oe.data = .fields vs ∧ vs[1]? = some .none ∧ 4 < vs.size ∧ vs[2]? = some .none
  dbig : h.objs.size ≤ d
  dne : d ≠ e
  ns : h'.Ns1 d (one v)
section
variable {prog : Program} {w : World} {A : Around} {E : Value → Shared → Prop} {R : Result → Shared → Prop} {s : Shared} {K : Frag} {mg : Str → Option Value} {C fI : Addr}
theorem ref_init (T : RefTxt K mg C fI) {x t0 : Addr} {v : Value} (X : K.In s.heap) (hlim : s.heap.NoLimit) (hx : s.heap.get? x = some (excO C t0)) (hnx : K.lookup x = none) (hroom : A.depth < recursionLimit)
    (hq : ∀ h' tk dx, InitEnd s.heap h' x C dx t0 v → R (.ok (.ret .none)) { s with heap := h', toks := tk }) :
    codeAny (model prog w) A (.call (.ref fI) ⟨[.ref x, v], []⟩) R s := by
  obtain ⟨oc, od, doc, pm, an, cdv, ct, osl, p1, p2, q1, q2, q3, q4, ho, hcd⟩ := T.fn
  obtain ⟨nm, q, N, bs, sn, sub, ab, col, dd, k0, k1, k2, k3, k5, hC⟩ := T.cls
  have hcl : clsIn K C = some { name := nm, bases := bs, mro := .ref C :: ESX.exTail, ns := N, qualname := q, hasDict := true, slotNames := sn, subclasses := sub, abstract := ab, collection := col, hasDel := false } := by unfold clsIn; rw [hC] <;> rfl
  refine Att.call_fn (binds := [("self", .ref x), ("answer", v)]) X hlim ho hcd hroom (BindsTo.of_eq (by first | rfl | with_unfolding_all rfl)) (by first | rfl | decide | with_unfolding_all rfl) (fun s₁ IC => ?_) rfl rfl rfl
  obtain ⟨h₁, tk₁, rfl⟩ := IC.toInCall.same
  have k : ∀ b o, s.heap.get? b = some o → h₁.get? b = some o := IC.toInCall.keep
  have hn := IC.toInCall.ns
  have X₁ : K.In h₁ := X.keeps k
  have hx₁ := k _ _ hx
  -- self.answer = answer
  show wpAny _ _ (execs _ _) _ _ _
  refine wpAny_execs_cons (plainObj_wpAny_Assign_Attribute ?_)
  refine ldC (v := v) hn (by first | rfl | with_unfolding_all rfl | kernel_rfl) (ldC (v := .ref x) hn (by first | rfl | with_unfolding_all rfl | kernel_rfl) ?_)
  refine set_plain X₁ (ox := excO C t0) (od := none) ⟨hx₁, rfl, rfl, trivial⟩ T.sa ?_
  refine ESX.osa_new X₁ hx₁ hcl rfl rfl T.noA (fun h₃ tk₃ dx k₃ dn dne hx₃ hn₃ => ?_)
  have z : s.heap.objs.size < h₁.objs.size := hn.lt
  show wpAny _ _ (execs _ _) _ _ _
  exact wpAny_execs_nil (hq h₃ tk₃ dx ⟨fun b o hb e => k₃ b o hb (k b o e), hx₃, Nat.le_of_lt (Nat.lt_of_lt_of_le z dn), dne, hn₃⟩)
theorem ref_made (T : RefTxt K mg C fI) {v : Value} (X : K.In s.heap) (hlim : s.heap.NoLimit) (hroom : A.depth + 1 < recursionLimit)
    (hq : ∀ h' tk e d, OwnMade s.heap h' e C d v → R (.ok (.ret (.ref e))) { s with heap := h', toks := tk }) :
    codeAny (model prog w) A (.call (.ref C) ⟨[v], []⟩) R s := by
  obtain ⟨nm, q, N, bs, sn, sub, ab, col, dd, k0, k1, k2, k3, k5, hC⟩ := T.cls
  obtain ⟨hp, g, dr, tk, os⟩ := s
  have k : ∀ b o, hp.get? b = some o → ((hp.push (kdv_tup [v])).push (excO C hp.objs.size)).get? b = some o := fun b o e => Heap.get?_push_of_some _ (Heap.get?_push_of_some _ e)
  have hget : ((hp.push (kdv_tup [v])).push (excO C hp.objs.size)).get? (hp.objs.size + 1) = some (excO C hp.objs.size) := by heap_get
  have hnx : K.lookup (hp.objs.size + 1) = none := by
    cases e : K.lookup (hp.objs.size + 1) with
    | none => rfl
    | some o =>
      have z : hp.get? (hp.objs.size + 1) = some o := X _ _ e
      exact absurd (Nat.lt_of_succ_lt (Heap.lt_size z)) (Nat.lt_irrefl _)
  refine call_own F.excBase_Exception (fun X => rfl) (X _ _ hC) (looks_findIn X T.iC) (fun self => bind_fn X self T.tC) (one_size v) ?_
  refine ref_init (s := ⟨(hp.push (kdv_tup [v])).push (excO C hp.objs.size), g, dr, tk, os⟩) T (X.keeps k) (hlim.keeps k) hget hnx ?_ fun h' tk' dx ⟨k', hx, dn, dne, hns⟩ => ?_
  · show A.depth + 1 < recursionLimit
    exact hroom
  · have old : ∀ b o, hp.get? b = some o → h'.get? b = some o := fun b o e => k' b o (Nat.ne_of_lt (Nat.lt_succ_of_lt (Heap.lt_size e))) (k b o e)
    have z : hp.objs.size + 1 + 1 ≤ dx := by
      first
        | (simpa only [Heap.size_push] using dn)
        | exact dn
        | (have q := dn; rw [Heap.size_push, Heap.size_push] at q; exact q)
    exact ⟨rfl, hq h' tk' (hp.objs.size + 1) dx ⟨old, Nat.le_succ _, ⟨_, _, hx, rfl, rfl, rfl, rfl, (by show (4 : Nat) < 6; decide), rfl⟩, Nat.le_trans (Nat.le_trans (Nat.le_succ _) (Nat.le_succ _)) z, dne, hns⟩⟩
end
end RefX
end PySem
namespace L2
open PySem PySem.Spec PyProof.Rows
/-- the field of a Refusal -/
def refF (v : V) : List (Str × V) := [(("answer" : Str), v)]
theorem refF_answer (v : V) : (refF v).lookup ("answer" : Str) = some v := by simp [refF, List.lookup]
theorem relO_ref {v : V} {u : Value} (r : RelV v u) (f : Str) : RelO (List.lookup f (refF v)) (PySem.RefX.one u f) := by
  unfold PySem.RefX.one
  by_cases hk : f = "answer"
  · subst hk
    rw [if_pos rfl, refF_answer]
    exact r
  · rw [if_neg hk]
    have q2 : (f == ("answer" : Str)) = false := by simpa using hk
    have q3 : List.lookup f (refF v) = none := by simp [refF, List.lookup, q2]
    rw [q3]
    trivial
section
variable {X : Cx} {C fI : Addr}
/-- Refusal(a) -/
def tMkRef (C : Addr) (ta : TA) : St → Hp → XK → Prop := fun σ H Q => ta σ H fun vs H1 => ∃ v, vs = [v] ∧ ∀ d, H1 d = none → Q (.ref C) (some d) (upd H1 d (.xd (refF v)))
theorem pmk5_ref {a : Expr} {ta : TA} {p pos : Pos} {k : Nat} (T : PySem.RefX.RefTxt X.K X.mg C fI) (hr : L2H.RoomH k X.A) (ha : PA X [a] ta) (hg : Gl X "Refusal" := by rfl)
    (he : starEach [a] X.env = (false, eval a X.env) :: starEach [] X.env := by rfl) (hpl : (backTo pos (starEach [] X.env)).any (·.1) = false := by rfl) :
    L2H.PMk5 X (.Call (.Name "Refusal" p) [a] [] pos) (tMkRef C ta) := by
  intro pins s σ H Q I h
  refine wpAny_Call_Name_kw (ld_glob I hg T.gC ?_)
  refine PySem.W.callWith_K (h₀ := X.base) I.ok.mod.kin T.kC (thn (ha.run pos pins s σ H _ I h) fun us s1 hh => ?_) he hpl
  obtain ⟨vs, H1, I1, r1, v, ev, q1⟩ := hh
  subst ev
  refine ⟨I1.kIn, ?_⟩
  cases r1 with
  | cons rv rn =>
    rename_i v' us'
    cases rn
    show wpAny _ _ (call (.ref C) [v']) _ _ _
    have hlim := I1.nolimit
    obtain ⟨hp, g, dr, tk, os⟩ := s1
    refine wpAny_call (PySem.RefX.ref_made T I1.kIn hlim (by have := hr.dp; omega) fun h' tk' e d M => ?_)
    obtain ⟨oe, fv, hoe, hc, hd, hdat, h1, h5, h2⟩ := M.obj
    refine ⟨?_, fun a oe2 vs2 ea hg2 hd2 => ?_⟩
    · have hns := M.ns
      obtain ⟨G', g1, g2⟩ := restrict h' fun b => decide (b ≠ e)
      have gk : ∀ b, b ≠ e → G'.get? b = h'.get? b := fun b hb => g1 b (decide_eq_true hb)
      have ge : G'.get? e = none := g2 e (by simp)
      have old : ∀ b o, hp.get? b = some o → G'.get? b = some o := fun b o q => (gk b (Nat.ne_of_lt (Nat.lt_of_lt_of_le (Heap.lt_size q) M.new))).trans (M.keep b o q)
      have ob : ObjOk X.prog X.w (upd H1 d (.xd (refF v))) G' d (.xd (refF v)) :=
        ⟨_, hns.at (fun o q => (gk d M.dne).trans q), fun f => relO_ref rv f⟩
      have J : Inv X pins σ (upd H1 d (.xd (refF v))) ⟨G', g, dr, tk', os⟩ := I1.laid (t' := tk') old M.dbig ob
      refine ⟨e, oe, fv, ⟨G', g, dr, tk', os⟩, _, .ref C, some d, rfl, J, fun b o q => ?_, ge, hoe, ⟨hc, hd, fun vs q => ?_⟩, hdat, h1, ?_, rfl, I1.bare, raises_own T.exC T.tyC, q1 d (I1.hok.fresh M.dbig)⟩
      · by_cases hb : b = e
        · have q' : G'.get? b = some o := q
          rw [hb, ge] at q'; cases q'
        · exact (gk b hb).symm.trans q
      · rw [hdat] at q
        cases q
        exact h2
      · rw [upd_ne (Ne.symm M.dne)]
        exact I1.hok.fresh M.new
    · cases ea
      have hg3 : h'.get? e = some oe2 := hg2
      rw [hoe] at hg3
      cases hg3
      rw [hdat] at hd2
      cases hd2
      exact h5
/-- raise Refusal(a) -/
def tRaiseRef (C : Addr) (W : WX) (ta : TA) : TS := fun _ σ H => tMkRef C ta σ H fun cls d H' => W cls d σ H'
theorem ps_raiseRef {a : Expr} {ta : TA} {W : WX} {p pos pos2 : Pos} {k : Nat} (hc : X.calm = true) (T : PySem.RefX.RefTxt X.K X.mg C fI) (hr : Room k X.A) (tk : Takes X W) (ha : PA X [a] ta) (hg : Gl X "Refusal" := by rfl)
    (he : starEach [a] X.env = (false, eval a X.env) :: starEach [] X.env := by rfl) (hpl : (backTo pos (starEach [] X.env)).any (·.1) = false := by rfl) :
    PS X (.Raise (some (.Call (.Name "Refusal" p) [a] [] pos)) none pos2) (tRaiseRef C W ta) := ps_raise hc tk (pmkN (pmk5_ref T (L2H.roomH_of hr) ha hg he hpl).pmk)
end
end L2
end

section
namespace Pat
/-! where each def and class of the program stands in its text -/
abbrev i__wall : Nat := 0
abbrev i_Fault : Nat := 9
abbrev i_only : Nat := 11
abbrev i_lowest_place : Nat := 12
abbrev i_highest_place : Nat := 13
abbrev i_without : Nat := 14
abbrev i_staying : Nat := 15
abbrev i_reached_from : Nat := 16
abbrev i_one_behind_other : Nat := 17
abbrev i_any_times_onward : Nat := 18
abbrev i_leading_to : Nat := 19
abbrev i_Search : Nat := 21
abbrev i_every_value : Nat := 25
abbrev i_just_one : Nat := 26
abbrev i_is_just_one : Nat := 27
abbrev i_all_but : Nat := 28
abbrev i_listed_ranges : Nat := 29
abbrev i_have_value : Nat := 30
abbrev i_is_word_value : Nat := 31
abbrev i_OneValue : Nat := 33
abbrev i_Standpoint : Nat := 34
abbrev i_Row : Nat := 35
abbrev i_Choice : Nat := 36
abbrev i_Repetition : Nat := 37
abbrev i_Capture : Nat := 38
abbrev i_row_of : Nat := 39
abbrev i_choice_of : Nat := 40
abbrev i_following_bytes : Nat := 45
abbrev i_scalar_at : Nat := 46
abbrev i_escape_ranges : Nat := 64
abbrev i_names_in : Nat := 65
abbrev i_Pattern : Nat := 66
abbrev i_Bracket : Nat := 67
abbrev i_Reader : Nat := 68
abbrev i_read_pattern : Nat := 69
abbrev i_Refusal : Nat := 74
abbrev i_Text : Nat := 76
abbrev i_search_of : Nat := 79
abbrev i_find : Nat := 80
end Pat
end

section
open PatUtf PatWords
namespace Mach
/-! A reader that goes from the front with a pile of open brackets: it answers as `PatWords.read`. -/

def seqs : List Pat → Pat
  | [] => .nothing
  | a :: l => .seq a (seqs l)
def alts : List Pat → Pat
  | [] => .nothing
  | [a] => a
  | a :: b :: l => .alt a (alts (b :: l))

/-- An open bracket, or the outside: what closes it, its name, its whole rows, the items of the row begun, whether a sign of repetition may come. -/
structure Fr where
  close : List UInt8
  name : Option Name
  rows : List Pat
  items : List Pat
  last : Bool
structure St where
  p : Nat
  b : Bytes
  ns : List (Nat × Name)
  frs : List Fr

def Fr.pat (fr : Fr) : Pat := alts (fr.rows ++ [seqs fr.items])
def Fr.atom (fr : Fr) : Pat := match fr.name with
  | none => fr.pat
  | some n => .cap n fr.pat
def fresh (close : List UInt8) (name : Option Name) : Fr := ⟨close, name, [], [], false⟩
def Fr.push (fr : Fr) (a : Pat) : Fr := { fr with items := fr.items ++ [a], last := true }
def Fr.bar (fr : Fr) : Fr := { fr with rows := fr.rows ++ [seqs fr.items], items := [], last := false }
def Fr.swap (fr : Fr) (a : Pat) : Fr := { fr with items := fr.items.dropLast ++ [a], last := false }
def isRep (c : UInt8) : Bool := c == 42 || c == 43 || c == 63 || c == 123
/-- A name behind its `<`. -/
def nameP (ns : List (Nat × Name)) (p : Nat) (r : Bytes) : Except Fault (Name × Bytes × Nat) := match r with
  | [] => .error ⟨1, p⟩
  | d :: _ => if isSmall d = false then .error ⟨2, p⟩ else
    let n := r.takeWhile inName
    if n.length = r.length then .error ⟨1, p + n.length⟩ else if NAMELEN < n.length ∨ (ns.any fun (y : Nat × Name) => y.2 == n) = true ∨ NAMES ≤ ns.length then .error ⟨4, p⟩ else match r.drop n.length with
      | [] => .error ⟨1, p + n.length⟩
      | e :: s => if e ≠ 32 then .error ⟨2, p + n.length⟩ else .ok (n, s, p + 1 + n.length)
/-- One step: the next sign, single atom or repetition. -/
def stepC (p : Nat) (ns : List (Nat × Name)) (fr : Fr) (frs : List Fr) (c : UInt8) (r : Bytes) : Except Fault St :=
  if c = 124 then .ok ⟨p + 1, r, ns, fr.bar :: frs⟩
  else if c = 40 then (if OPENED ≤ frs.length then .error ⟨5, p⟩ else .ok ⟨p + 1, r, ns, fresh [41] none :: fr :: frs⟩)
  else if c = 60 then (if OPENED ≤ frs.length then .error ⟨5, p⟩ else match nameP ns (p + 1) r with
    | .error e => .error e
    | .ok (n, s, q) => .ok ⟨q, s, ns ++ [(p + 1, n)], fresh [62] (some n) :: fr :: frs⟩)
  else if c = 41 ∨ c = 62 then (if fr.close = [c] then (match frs with
      | [] => .error ⟨2, p⟩
      | g :: gs => .ok ⟨p + 1, r, ns, g.push fr.atom :: gs⟩) else .error ⟨2, p⟩)
  else if isRep c = true then (if fr.last = true then (match repP (fr.items.getLast?.getD .nothing) p (c :: r) with
      | .error e => .error e
      | .ok (a, s, q) => .ok ⟨q, s, ns, fr.swap a :: frs⟩) else .error ⟨2, p⟩)
  else match atomP 1 0 [] p (c :: r) with
    | .error e => .error e
    | .ok (a, _, s, q) => .ok ⟨q, s, ns, fr.push a :: frs⟩
def finish (st : St) : Except Fault (Pat × List (Nat × Name)) := match st.frs with
  | [fr] => if ATOMS < fr.pat.size then .error ⟨7, 0⟩ else .ok (fr.pat, st.ns)
  | _ => .error ⟨1, st.p⟩
def run : Nat → St → Except Fault (Pat × List (Nat × Name))
  | 0, st => .error ⟨1, st.p⟩
  | f + 1, st => match st.b, st.frs with
    | [], _ => finish st
    | _, [] => .error ⟨1, st.p⟩
    | c :: r, fr :: frs => match stepC st.p st.ns fr frs c r with
      | .error e => .error e
      | .ok st' => run f st'

/-! ## Each reader leaves fewer bytes -/
theorem follow_len : ∀ (k lo hi x p : Nat) (b : Bytes) (z : Nat × Bytes), follow k lo hi x p b = .ok z → z.2.length ≤ b.length
  | 0, _, _, _, _, b, z, h => by
    simp only [follow] at h; cases h; exact Nat.le_refl _
  | k + 1, lo, hi, x, p, [], z, h => by simp only [follow] at h; cases h
  | k + 1, lo, hi, x, p, c :: b, z, h => by
    simp only [follow] at h
    split at h
    · exact Nat.le_trans (follow_len k _ _ _ _ b z h) (Nat.le_succ _)
    · cases h
theorem scalarAt_len {p : Nat} {b : Bytes} {z : Nat × Bytes} (h : scalarAt p b = .ok z) : z.2.length < b.length := by
  cases b with
  | nil => cases h
  | cons c b =>
    simp only [scalarAt] at h
    cases e : leads c.toNat with
    | none => rw [e] at h; cases h
    | some k => rw [e] at h; exact Nat.lt_succ_of_le (follow_len _ _ _ _ _ _ _ h)
theorem valueP_len {p : Nat} {b : Bytes} {z : Nat × Bytes × Nat} (h : valueP p b = .ok z) : z.2.1.length < b.length := by
  unfold valueP at h
  cases e : scalarAt p b with
  | error q => rw [e] at h; cases h
  | ok y => rw [e] at h; cases h; exact scalarAt_len e
theorem oneP_len {p : Nat} {b : Bytes} {z} (h : oneP p b = .ok z) : z.2.1.length < b.length := by
  unfold oneP at h
  cases b with
  | nil => cases h
  | cons c r =>
    simp only at h
    split at h
    · cases r with
      | nil => cases h
      | cons d s =>
        simp only at h
        split at h
        · cases h; simp; omega
        · split at h
          · cases h; simp; omega
          · cases h
    · split at h
      · cases h
      · cases e : valueP p (c :: r) with
        | error q => rw [e] at h; cases h
        | ok y => rw [e] at h; cases h; exact valueP_len e
theorem timesP_len {p : Nat} {b : Bytes} {z} (h : timesP p b = .ok z) : z.2.1.length < b.length := by
  unfold timesP at h
  cases b with
  | nil => cases h
  | cons c r =>
    simp only at h
    split at h
    · cases h
    · split at h
      · cases r with
        | nil => cases h
        | cons d s => cases h; simp
      · split at h
        · cases h
        · split at h
          · cases h
          · rename_i hd _ _ _
            cases h
            have hd' : isDigit c = true := by cases q : isDigit c with
              | true => rfl
              | false => exact absurd q hd
            simp only [List.takeWhile_cons, hd', if_true, List.length_cons, List.drop_succ_cons, List.length_drop]
            omega
theorem repP_len {a : Pat} {p : Nat} {b : Bytes} {z} (h : repP a p b = .ok z) : z.2.1.length ≤ b.length := by
  unfold repP at h
  cases b with
  | nil => cases h; simp
  | cons c r =>
    simp only at h
    split at h; · cases h; simp
    split at h; · cases h; simp
    split at h; · cases h; simp
    split at h
    · cases e : timesP (p + 1) r with
      | error q => rw [e] at h; cases h
      | ok y =>
        have l := timesP_len e
        rw [e] at h
        simp only [bind, Except.bind] at h
        obtain ⟨m, s, q⟩ := y
        simp only at h l
        cases s with
        | nil => cases h
        | cons d u =>
          simp only [List.length_cons] at h l
          split at h; · cases h; simp; omega
          split at h; · cases h
          cases u with
          | nil => cases h
          | cons e2 v =>
            simp only [List.length_cons] at h l
            split at h; · cases h; simp; omega
            cases e3 : timesP (q + 1) (e2 :: v) with
            | error q => rw [e3] at h; cases h
            | ok y2 =>
              have l2 := timesP_len e3
              rw [e3] at h
              obtain ⟨n, x, k⟩ := y2
              simp only [List.length_cons] at h l2
              split at h; · cases h
              cases x with
              | nil => cases h
              | cons y z =>
                simp only [List.length_cons] at h l2
                split at h
                · cases h; simp; omega
                · cases h
    · cases h; simp
end Mach
end

section
open PatUtf PatWords
namespace Mach
theorem partsP_len : ∀ (f : Nat) (s : Bool) (acc : List (Nat × Nat)) (p : Nat) (b : Bytes) (z), partsP f s acc p b = .ok z → z.2.1.length < b.length
  | 0, _, _, _, _, _, h => by simp only [partsP] at h; cases h
  | f + 1, s, acc, p, [], z, h => by simp only [partsP] at h; cases h
  | f + 1, s, acc, p, c :: r, z, h => by
    rw [partsP] at h
    simp only at h
    split at h
    · split at h
      · cases h; simp
      · cases h
    · cases e : oneP p (c :: r) with
      | error q => rw [e] at h; cases h
      | ok y =>
        have l := oneP_len e
        obtain ⟨x, u, q⟩ := y
        rw [e] at h
        simp only [bind, Except.bind] at h
        simp only at l
        cases x with
        | inr v => exact Nat.lt_trans (partsP_len f _ _ _ _ _ h) l
        | inl lo =>
          cases u with
          | nil => cases h
          | cons d u =>
            simp only at h
            split at h
            · cases e2 : oneP (q + 1) u with
              | error q => rw [e2] at h; cases h
              | ok y2 =>
                have l2 := oneP_len e2
                obtain ⟨y, v, k⟩ := y2
                rw [e2] at h
                simp only at h l2
                cases y with
                | inr w => cases h
                | inl hi =>
                  simp only at h
                  split at h
                  · cases h
                  · have l3 := partsP_len f _ _ _ _ _ h
                    simp only [List.length_cons] at l ⊢
                    omega
            · have l3 := partsP_len f _ _ _ _ _ h
              exact Nat.lt_trans l3 l
theorem nameP_len {ns : List (Nat × Name)} {p : Nat} {b : Bytes} {z} (h : nameP ns p b = .ok z) : z.2.1.length < b.length := by
  unfold nameP at h
  cases b with
  | nil => cases h
  | cons d r =>
    simp only at h
    split at h; · cases h
    split at h; · cases h
    split at h; · cases h
    split at h
    · cases h
    · rename_i e s q
      split at h
      · cases h
      · cases h
        simp only
        have := congrArg List.length q
        simp only [List.length_drop, List.length_cons] at this ⊢
        omega
/-- Of an atom that is no bracket nothing hangs on the names, on what is open, on the fuel. -/
theorem atom_single {f o : Nat} {ns : List (Nat × Name)} {p : Nat} {c : UInt8} {r : Bytes} (h1 : c ≠ 40) (h2 : c ≠ 60) :
    atomP (f + 1) o ns p (c :: r) = match atomP 1 0 [] p (c :: r) with
      | .error e => .error e
      | .ok (a, _, s, q) => .ok (a, ns, s, q) := by
  rw [atomP.eq_def (f + 1), atomP.eq_def 1]
  simp only [h1, h2, if_false]
  split; · rfl
  split; · rfl
  split; · rfl
  split
  · cases r with
    | nil => rfl
    | cons d s =>
      simp only
      split; · rfl
      split; · rfl
      split <;> rfl
  split
  · cases r with
    | nil => rfl
    | cons d s =>
      simp only
      split
      · cases partsP ((c :: d :: s).length + 1) false [] (p + 2) s <;> rfl
      · cases partsP ((c :: d :: s).length + 1) false [] (p + 1) (d :: s) <;> rfl
  split
  · rfl
  · cases valueP p (c :: r) <;> rfl
theorem atom1_len {p : Nat} {c : UInt8} {r : Bytes} {z} (h1 : c ≠ 40) (h2 : c ≠ 60) (h : atomP 1 0 [] p (c :: r) = .ok z) : z.2.2.1.length < (c :: r).length := by
  rw [atomP.eq_def 1] at h
  simp only [h1, h2, if_false] at h
  split at h; · cases h; simp
  split at h; · cases h; simp
  split at h; · cases h; simp
  split at h
  · cases r with
    | nil => cases h
    | cons d s =>
      simp only at h
      split at h; · cases h; simp; omega
      split at h; · cases h; simp; omega
      split at h
      · cases h; simp; omega
      · cases h
  split at h
  · cases r with
    | nil => cases h
    | cons d s =>
      simp only at h
      split at h
      · cases e : partsP ((c :: d :: s).length + 1) false [] (p + 2) s with
        | error q => rw [e] at h; cases h
        | ok y =>
          have := partsP_len _ _ _ _ _ _ e
          obtain ⟨y1, y2, y3⟩ := y
          rw [e] at h
          cases h
          simp only [List.length_cons] at this ⊢
          omega
      · cases e : partsP ((c :: d :: s).length + 1) false [] (p + 1) (d :: s) with
        | error q => rw [e] at h; cases h
        | ok y =>
          have := partsP_len _ _ _ _ _ _ e
          obtain ⟨y1, y2, y3⟩ := y
          rw [e] at h
          cases h
          simp only [List.length_cons] at this ⊢
          omega
  split at h
  · cases h
  · cases e : valueP p (c :: r) with
    | error q => rw [e] at h; cases h
    | ok y =>
      have := valueP_len e
      rw [e] at h
      cases h
      exact this
theorem repP_lt {a : Pat} {p : Nat} {c : UInt8} {r : Bytes} {z} (hc : isRep c = true) (h : repP a p (c :: r) = .ok z) : z.2.1.length < (c :: r).length := by
  have hl := repP_len h
  unfold repP at h
  simp only at h
  split at h; · cases h; simp
  split at h; · cases h; simp
  split at h; · cases h; simp
  split at h
  · cases e : timesP (p + 1) r with
    | error q => rw [e] at h; cases h
    | ok y =>
      have l := timesP_len e
      rw [e] at h
      simp only [bind, Except.bind] at h
      obtain ⟨m, s, q⟩ := y
      simp only at h l
      cases s with
      | nil => cases h
      | cons d u =>
        simp only [List.length_cons] at h l
        split at h; · cases h; simp; omega
        split at h; · cases h
        cases u with
        | nil => cases h
        | cons e2 v =>
          simp only [List.length_cons] at h l
          split at h; · cases h; simp; omega
          cases e3 : timesP (q + 1) (e2 :: v) with
          | error q => rw [e3] at h; cases h
          | ok y2 =>
            have l2 := timesP_len e3
            rw [e3] at h
            obtain ⟨n, x, k⟩ := y2
            simp only [List.length_cons] at h l2
            split at h; · cases h
            cases x with
            | nil => cases h
            | cons y z =>
              simp only [List.length_cons] at h l2
              split at h
              · cases h; simp; omega
              · cases h
  · rename_i n1 n2 n3 n4
    simp [isRep, n1, n2, n3, n4] at hc
theorem stepC_len {p : Nat} {ns : List (Nat × Name)} {fr : Fr} {frs : List Fr} {c : UInt8} {r : Bytes} {st : St} (h : stepC p ns fr frs c r = .ok st) : st.b.length < (c :: r).length := by
  unfold stepC at h
  split at h; · cases h; simp
  split at h
  · split at h
    · cases h
    · cases h; simp
  split at h
  · split at h
    · cases h
    · cases e : nameP ns (p + 1) r with
      | error q => rw [e] at h; cases h
      | ok y =>
        have := nameP_len e
        obtain ⟨n, s, q⟩ := y
        rw [e] at h
        cases h
        simp only [List.length_cons] at this ⊢
        omega
  split at h
  · split at h
    · cases frs with
      | nil => cases h
      | cons g gs => cases h; simp
    · cases h
  split at h
  · rename_i hc
    split at h
    · cases e : repP (fr.items.getLast?.getD .nothing) p (c :: r) with
      | error q => rw [e] at h; cases h
      | ok y =>
        have := repP_lt hc e
        rw [e] at h
        cases h
        exact this
    · cases h
  · rename_i h40 h60 _ _
    cases e : atomP 1 0 [] p (c :: r) with
    | error q => rw [e] at h; cases h
    | ok y =>
      have := atom1_len h40 h60 e
      rw [e] at h
      cases h
      exact this
/-- More fuel than bytes: how much is no matter. -/
theorem run_fuel : ∀ (f g : Nat) (st : St), st.b.length < f → st.b.length < g → run f st = run g st
  | 0, _, _, h, _ => absurd h (Nat.not_lt_zero _)
  | _ + 1, 0, _, _, h => absurd h (Nat.not_lt_zero _)
  | f + 1, g + 1, ⟨p, b, ns, frs⟩, hf, hg => by
    rw [run, run]
    cases b with
    | nil => rfl
    | cons c r =>
      cases frs with
      | nil => rfl
      | cons fr frs =>
        simp only
        cases e : stepC p ns fr frs c r with
        | error e => rfl
        | ok st =>
          have l := stepC_len e
          simp only [List.length_cons] at l hf hg
          exact run_fuel f g st (by omega) (by omega)
def go (st : St) : Except Fault (Pat × List (Nat × Name)) := run (st.b.length + 1) st
theorem go_nil {p : Nat} {ns : List (Nat × Name)} {frs : List Fr} : go ⟨p, [], ns, frs⟩ = finish ⟨p, [], ns, frs⟩ := rfl
theorem go_cons {p : Nat} {ns : List (Nat × Name)} {fr : Fr} {frs : List Fr} {c : UInt8} {r : Bytes} : go ⟨p, c :: r, ns, fr :: frs⟩ = match stepC p ns fr frs c r with
    | .error e => .error e
    | .ok st => go st := by
  show run ((c :: r).length + 1) _ = _
  rw [run]
  simp only
  cases e : stepC p ns fr frs c r with
  | error e => rfl
  | ok st =>
    have l := stepC_len e
    exact run_fuel _ _ _ l (Nat.lt_succ_self _)
end Mach
end

section
open PatUtf PatWords
namespace Mach
def NoRep (b : Bytes) : Prop := ∀ c s, b = c :: s → isRep c = false
def EndsP (b : Bytes) : Prop := ∀ c s, b = c :: s → c = 41 ∨ c = 62
def EndsR (b : Bytes) : Prop := ∀ c s, b = c :: s → c = 124 ∨ c = 41 ∨ c = 62
def PatS (f : Nat) : Prop := ∀ (o : Nat) (ns : List (Nat × Name)) (p : Nat) (b : Bytes) (fr : Fr) (frs : List Fr), frs.length = o → 3 * b.length + 3 ≤ f → fr.last = false → fr.items = [] →
  match patP f o ns p b with
  | .error e => go ⟨p, b, ns, fr :: frs⟩ = .error e
  | .ok (a, ns', r, q) => ∃ rows items l, a = alts (rows ++ [seqs items]) ∧ go ⟨p, b, ns, fr :: frs⟩ = go ⟨q, r, ns', { fr with rows := fr.rows ++ rows, items := items, last := l } :: frs⟩ ∧ EndsP r ∧ r.length ≤ b.length
def RowS (f : Nat) : Prop := ∀ (o : Nat) (ns : List (Nat × Name)) (p : Nat) (b : Bytes) (fr : Fr) (frs : List Fr), frs.length = o → 3 * b.length + 2 ≤ f → fr.last = false ∨ NoRep b →
  match rowP f o ns p b with
  | .error e => go ⟨p, b, ns, fr :: frs⟩ = .error e
  | .ok (a, ns', r, q) => ∃ its l, a = seqs its ∧ go ⟨p, b, ns, fr :: frs⟩ = go ⟨q, r, ns', { fr with items := fr.items ++ its, last := l } :: frs⟩ ∧ EndsR r ∧ r.length ≤ b.length
def AtomS (f : Nat) : Prop := ∀ (o : Nat) (ns : List (Nat × Name)) (p : Nat) (c : UInt8) (r : Bytes) (fr : Fr) (frs : List Fr), frs.length = o → 3 * (r.length + 1) + 1 ≤ f → fr.last = false ∨ isRep c = false → ¬ (c = 124 ∨ c = 41 ∨ c = 62) →
  match atomP f o ns p (c :: r) with
  | .error e => go ⟨p, c :: r, ns, fr :: frs⟩ = .error e
  | .ok (a, ns', s, q) => go ⟨p, c :: r, ns, fr :: frs⟩ = go ⟨q, s, ns', fr.push a :: frs⟩ ∧ s.length ≤ r.length

theorem endsP_nil : EndsP [] := fun _ _ h => nomatch h
theorem endsR_nil : EndsR [] := fun _ _ h => nomatch h
theorem isRep_ne {c : UInt8} (h : isRep c = true) : c ≠ 124 ∧ c ≠ 40 ∧ c ≠ 60 ∧ c ≠ 41 ∧ c ≠ 62 := by
  simp only [isRep, Bool.or_eq_true, beq_iff_eq] at h
  rcases h with ((h | h) | h) | h <;> subst h <;> decide
theorem rep_ok (ns : List (Nat × Name)) (q : Nat) (r : Bytes) (fr : Fr) (frs : List Fr) (a : Pat) :
    match repP a q r with
    | .error e => go ⟨q, r, ns, fr.push a :: frs⟩ = .error e
    | .ok (a', r', q') => ∃ l, go ⟨q, r, ns, fr.push a :: frs⟩ = go ⟨q', r', ns, { fr with items := fr.items ++ [a'], last := l } :: frs⟩ ∧ (l = false ∨ NoRep r') ∧ r'.length ≤ r.length := by
  cases r with
  | nil => exact ⟨true, rfl, .inr (fun _ _ h => by cases h), Nat.le_refl _⟩
  | cons c s =>
    cases hc : isRep c with
    | false =>
      have e : repP a q (c :: s) = .ok (a, c :: s, q) := by
        simp only [isRep, Bool.or_eq_false_iff, beq_eq_false_iff_ne] at hc
        unfold repP
        simp only [hc.1.1.1, hc.1.1.2, hc.1.2, hc.2, if_false]
      rw [e]
      exact ⟨true, rfl, .inr (fun d u h => by cases h; exact hc), Nat.le_refl _⟩
    | true =>
      obtain ⟨n1, n2, n3, n4, n5⟩ := isRep_ne hc
      have step : go ⟨q, c :: s, ns, fr.push a :: frs⟩ = match repP a q (c :: s) with
          | .error e => .error e
          | .ok (a', r', q') => go ⟨q', r', ns, { fr with items := fr.items ++ [a'], last := false } :: frs⟩ := by
        rw [go_cons]
        have hl : (fr.items ++ [a]).getLast?.getD .nothing = a := by simp
        have hd : (fr.items ++ [a]).dropLast = fr.items := by simp
        unfold stepC
        simp only [n1, n2, n3, n4, n5, hc, if_false, if_true, or_self, Fr.push, hl]
        cases repP a q (c :: s) with
        | error e => rfl
        | ok y => simp only [Fr.swap, hd]
      cases e : repP a q (c :: s) with
      | error x => rw [step, e]
      | ok y =>
        obtain ⟨a', r', q'⟩ := y
        rw [e] at step
        exact ⟨false, step, .inl rfl, repP_len e⟩
theorem signs_rep {c : UInt8} (h : isRep c = true) : signs.contains c = true ∧ c ≠ 46 ∧ c ≠ 94 ∧ c ≠ 36 ∧ c ≠ 92 ∧ c ≠ 91 := by
  simp only [isRep, Bool.or_eq_true, beq_iff_eq] at h
  rcases h with ((h | h) | h) | h <;> subst h <;> decide
theorem atom_rep {f o : Nat} {ns : List (Nat × Name)} {p : Nat} {c : UInt8} {r : Bytes} (h : isRep c = true) : atomP (f + 1) o ns p (c :: r) = .error ⟨2, p⟩ := by
  obtain ⟨n1, n2, n3, n4, n5⟩ := isRep_ne h
  obtain ⟨k, m1, m2, m3, m4, m5⟩ := signs_rep h
  rw [atomP.eq_def (f + 1)]
  simp only [n2, n3, m1, m2, m3, m4, m5, k, if_false, if_true]
theorem two_open {p : Nat} {ns : List (Nat × Name)} {a b : Fr} {l : List Fr} : go ⟨p, [], ns, a :: b :: l⟩ = .error ⟨1, p⟩ := rfl
theorem main : ∀ f, PatS f ∧ RowS f ∧ AtomS f
  | 0 => ⟨fun _ _ _ _ _ _ _ h => by omega, fun _ _ _ _ _ _ _ h => by omega, fun _ _ _ _ _ _ _ _ h => by omega⟩
  | f + 1 => by
    obtain ⟨hP, hR, hA⟩ := main f
    refine ⟨?_, ?_, ?_⟩
    · intro o ns p b fr frs ho hf hl hi
      rw [patP.eq_2]
      have R := hR o ns p b fr frs ho (by omega) (.inl hl)
      cases e : rowP f o ns p b with
      | error x => rw [e] at R; exact R
      | ok y =>
        obtain ⟨a, ns1, r, q⟩ := y
        rw [e] at R
        obtain ⟨its, l, ea, eg, er, el⟩ := R
        rw [hi, List.nil_append] at eg
        simp only [bind, Except.bind]
        cases r with
        | nil => exact ⟨[], its, l, ea, by rw [eg, List.append_nil], endsP_nil, el⟩
        | cons c s =>
          simp only
          by_cases hc : c = 124
          · rw [if_pos hc]
            have P := hP o ns1 (q + 1) s (({ fr with items := its, last := l } : Fr).bar) frs ho (by simp only [List.length_cons] at el; omega) rfl rfl
            have eg2 : go ⟨p, b, ns, fr :: frs⟩ = go ⟨q + 1, s, ns1, ({ fr with items := its, last := l } : Fr).bar :: frs⟩ := by
              rw [eg, go_cons]
              unfold stepC
              rw [if_pos hc]
            cases e2 : patP f o ns1 (q + 1) s with
            | error x => rw [e2] at P; rw [eg2]; exact P
            | ok y =>
              obtain ⟨d, ns2, u, k⟩ := y
              rw [e2] at P
              obtain ⟨rows, items, l2, ed, eg3, eu, el3⟩ := P
              subst ea
              refine ⟨seqs its :: rows, items, l2, ?_, ?_, eu, by show u.length ≤ b.length; simp only [List.length_cons] at el; omega⟩
              · rw [ed]
                cases rows <;> rfl
              · rw [eg2, eg3]
                simp only [Fr.bar, List.append_assoc, List.singleton_append]
          · rw [if_neg hc]
            refine ⟨[], its, l, ea, by rw [eg, List.append_nil], fun d u h => ?_, el⟩
            cases h
            exact (er _ _ rfl).resolve_left hc
    · intro o ns p b fr frs ho hf hl
      cases b with
      | nil =>
        rw [rowP.eq_2]
        exact ⟨[], fr.last, rfl, by rw [List.append_nil], endsR_nil, Nat.le_refl _⟩
      | cons c r =>
        rw [rowP.eq_3]
        by_cases hc : c = 124 ∨ c = 41 ∨ c = 62
        · rw [if_pos hc]
          exact ⟨[], fr.last, rfl, by rw [List.append_nil], fun _ _ h => (by cases h; exact hc), Nat.le_refl _⟩
        · rw [if_neg hc]
          have A := hA o ns p c r fr frs ho (by simp only [List.length_cons] at hf; omega) (hl.imp id fun h => h _ _ rfl) hc
          cases e : atomP f o ns p (c :: r) with
          | error x => rw [e] at A; exact A
          | ok y =>
            obtain ⟨a, ns1, s, q⟩ := y
            rw [e] at A
            obtain ⟨eg, es⟩ := A
            simp only [bind, Except.bind]
            have P := rep_ok ns1 q s fr frs a
            cases e2 : repP a q s with
            | error x => rw [e2] at P; rw [eg]; exact P
            | ok y =>
              obtain ⟨a2, s2, q2⟩ := y
              rw [e2] at P
              obtain ⟨l2, eg2, en2, es2⟩ := P
              simp only
              have R := hR o ns1 q2 s2 { fr with items := fr.items ++ [a2], last := l2 } frs ho (by simp only [List.length_cons] at hf; omega) en2
              cases e3 : rowP f o ns1 q2 s2 with
              | error x => rw [e3] at R; rw [eg, eg2]; exact R
              | ok y =>
                obtain ⟨d, ns3, u, k⟩ := y
                rw [e3] at R
                obtain ⟨its, l3, ed, eg3, eu, el3⟩ := R
                refine ⟨a2 :: its, l3, by rw [ed]; rfl, ?_, eu, by simp only [List.length_cons]; omega⟩
                rw [eg, eg2, eg3]
                simp only [List.append_assoc, List.singleton_append]
    · intro o ns p c r fr frs ho hf hl hc
      cases hr : isRep c with
      | true =>
        rw [atom_rep hr]
        obtain ⟨n1, n2, n3, n4, n5⟩ := isRep_ne hr
        have h0 : fr.last = false := hl.resolve_right (by rw [hr]; decide)
        show go _ = _
        rw [go_cons]
        unfold stepC
        simp only [n1, n2, n3, n4, n5, hr, h0, if_false, if_true, or_self, Bool.false_eq_true]
      | false =>
        have c1 : c ≠ 124 := fun h => hc (.inl h)
        have c2 : c ≠ 41 := fun h => hc (.inr (.inl h))
        have c3 : c ≠ 62 := fun h => hc (.inr (.inr h))
        by_cases h40 : c = 40
        · subst h40
          rw [atomP.eq_def (f + 1)]
          rw [go_cons]
          unfold stepC
          simp only [(by decide : ¬ (40 : UInt8) = 46), (by decide : ¬ (40 : UInt8) = 94), (by decide : ¬ (40 : UInt8) = 36), (by decide : ¬ (40 : UInt8) = 92), (by decide : ¬ (40 : UInt8) = 91), (by decide : ¬ (40 : UInt8) = 124), if_false, if_true, ho]
          by_cases h5 : OPENED ≤ o
          · simp only [h5, if_true]
          · simp only [h5, if_false]
            have P := hP (o + 1) ns (p + 1) r (fresh [41] none) (fr :: frs) (by rw [List.length_cons, ho]) (by omega) rfl rfl
            cases e : patP f (o + 1) ns (p + 1) r with
            | error x => rw [e] at P; exact P
            | ok y =>
              obtain ⟨a, ns1, u, k⟩ := y
              rw [e] at P
              obtain ⟨rows, items, l, ea, eg, eu, el⟩ := P
              simp only [bind, Except.bind]
              cases u with
              | nil => exact eg.trans two_open
              | cons z v =>
                simp only
                by_cases hz : z = 41
                · subst hz
                  rw [if_pos rfl]
                  refine ⟨?_, by simp only [List.length_cons] at el; omega⟩
                  rw [eg, go_cons]
                  unfold stepC
                  simp only [(by decide : ¬ (41 : UInt8) = 124), (by decide : ¬ (41 : UInt8) = 40), (by decide : ¬ (41 : UInt8) = 60), if_false, if_true, true_or, fresh]
                  rw [ea]
                  rfl
                · rw [if_neg hz]
                  have hz2 : z = 62 := (eu _ _ rfl).resolve_left hz
                  subst hz2
                  show go _ = _
                  rw [eg, go_cons]
                  rfl
        · by_cases h60 : c = 60
          · subst h60
            rw [atomP.eq_def (f + 1)]
            rw [go_cons]
            unfold stepC
            simp only [(by decide : ¬ (60 : UInt8) = 46), (by decide : ¬ (60 : UInt8) = 94), (by decide : ¬ (60 : UInt8) = 36), (by decide : ¬ (60 : UInt8) = 92), (by decide : ¬ (60 : UInt8) = 91), (by decide : ¬ (60 : UInt8) = 124), (by decide : ¬ (60 : UInt8) = 40), if_false, if_true, ho]
            by_cases h5 : OPENED ≤ o
            · simp only [h5, if_true]
            · simp only [h5, if_false]
              cases r with
              | nil => rfl
              | cons d s =>
                unfold nameP
                simp only
                by_cases hd : isSmall d = false
                · simp only [hd, if_true]
                · have hd' : (isSmall d = false) = False := eq_false hd
                  simp only [hd', if_false]
                  by_cases h1 : ((d :: s).takeWhile inName).length = (d :: s).length
                  · simp only [h1, if_true]
                  · simp only [h1, if_false]
                    by_cases h4 : NAMELEN < ((d :: s).takeWhile inName).length ∨ (ns.any fun (y : Nat × Name) => y.2 == (d :: s).takeWhile inName) = true ∨ NAMES ≤ ns.length
                    · simp only [h4, if_true]
                    · simp only [h4, if_false]
                      have hdl : ((d :: s).drop ((d :: s).takeWhile inName).length).length = (d :: s).length - ((d :: s).takeWhile inName).length := List.length_drop
                      cases e6 : (d :: s).drop ((d :: s).takeWhile inName).length with
                      | nil => rfl
                      | cons e7 s7 =>
                        rw [e6] at hdl
                        simp only
                        by_cases h7 : e7 ≠ 32
                        · rw [if_pos h7, if_pos h7]
                        · rw [if_neg h7, if_neg h7]
                          have hs7 : s7.length < (d :: s).length := by simp only [List.length_cons] at hdl ⊢; omega
                          have P := hP (o + 1) (ns ++ [(p + 1, (d :: s).takeWhile inName)]) (p + 2 + ((d :: s).takeWhile inName).length) s7 (fresh [62] (some ((d :: s).takeWhile inName))) (fr :: frs) (by rw [List.length_cons, ho]) (by simp only [List.length_cons] at hf hs7; omega) rfl rfl
                          have ep : p + 1 + 1 + ((d :: s).takeWhile inName).length = p + 2 + ((d :: s).takeWhile inName).length := by omega
                          simp only [ep]
                          cases e : patP f (o + 1) (ns ++ [(p + 1, (d :: s).takeWhile inName)]) (p + 2 + ((d :: s).takeWhile inName).length) s7 with
                          | error x => rw [e] at P; exact P
                          | ok y =>
                            obtain ⟨a, ns1, u, k⟩ := y
                            rw [e] at P
                            obtain ⟨rows, items, l, ea, eg, eu, el⟩ := P
                            simp only [bind, Except.bind]
                            cases u with
                            | nil => exact eg.trans two_open
                            | cons z v =>
                              simp only
                              by_cases hz : z = 62
                              · subst hz
                                rw [if_pos rfl]
                                refine ⟨?_, by simp only [List.length_cons] at el hs7 ⊢; omega⟩
                                rw [eg, go_cons]
                                unfold stepC
                                simp only [(by decide : ¬ (62 : UInt8) = 124), (by decide : ¬ (62 : UInt8) = 40), (by decide : ¬ (62 : UInt8) = 60), if_false, if_true, or_true, fresh]
                                rw [ea]
                                rfl
                              · rw [if_neg hz]
                                have hz2 : z = 41 := (eu _ _ rfl).resolve_right hz
                                subst hz2
                                show go _ = _
                                rw [eg, go_cons]
                                rfl
          · rw [atom_single h40 h60]
            have step : go ⟨p, c :: r, ns, fr :: frs⟩ = match atomP 1 0 [] p (c :: r) with
                | .error e => .error e
                | .ok (a, _, s, q) => go ⟨q, s, ns, fr.push a :: frs⟩ := by
              rw [go_cons]
              unfold stepC
              simp only [c1, c2, c3, h40, h60, hr, if_false, or_self, Bool.false_eq_true]
              cases atomP 1 0 [] p (c :: r) <;> rfl
            cases e : atomP 1 0 [] p (c :: r) with
            | error x => rw [step, e]
            | ok y =>
              have hlen := atom1_len h40 h60 e
              obtain ⟨a, n0, s, q⟩ := y
              rw [e] at step
              exact ⟨step, by simp only [List.length_cons] at hlen; omega⟩
def start (b : Bytes) : St := ⟨0, b, [], [fresh [] none]⟩
/-- **The reader with a pile answers as the specification's reader.** -/
theorem go_read (b : Bytes) : go (start b) = PatWords.read b := by
  have P := (main (4 * b.length + 8)).1 0 [] 0 b (fresh [] none) [] rfl (by omega) rfl rfl
  unfold PatWords.read
  unfold start
  cases e : patP (4 * b.length + 8) 0 [] 0 b with
  | error x => rw [e] at P; exact P
  | ok y =>
    obtain ⟨a, ns, r, q⟩ := y
    rw [e] at P
    obtain ⟨rows, items, l, ea, eg, er, el⟩ := P
    rw [eg]
    cases r with
    | nil =>
      rw [go_nil]
      simp only [finish, Fr.pat, fresh, List.nil_append, ne_eq, not_true, if_false]
      rw [ea]
      rfl
    | cons c s =>
      simp only [ne_eq, reduceCtorEq, not_false_iff, if_true]
      rw [go_cons]
      have hc : c = 41 ∨ c = 62 := er _ _ rfl
      rcases hc with h | h <;> subst h <;> rfl
end Mach
end

section
open PatUtf PatWords
namespace Utf
/-! UTF-8 read and written back; places and bytes. Pure. -/
theorem u8_of {c : UInt8} {n : Nat} (h : n = c.toNat) : UInt8.ofNat n = c := by
  rw [h]
  exact UInt8.ofNat_toNat
theorem leads_cases {c k lo hi : Nat} (h : leads c = some (k, lo, hi)) : (k = 0 ∧ c < 128) ∨ (k = 1 ∧ 0xC2 ≤ c ∧ c < 0xE0 ∧ lo = 0x80 ∧ hi = 0xBF) ∨
    (k = 2 ∧ 0xE0 ≤ c ∧ c < 0xF0 ∧ 0x80 ≤ lo ∧ hi ≤ 0xBF ∧ (c = 0xE0 → lo = 0xA0) ∧ (c = 0xED → hi = 0x9F)) ∨ (k = 3 ∧ 0xF0 ≤ c ∧ c ≤ 0xF4 ∧ 0x80 ≤ lo ∧ hi ≤ 0xBF ∧ (c = 0xF0 → lo = 0x90) ∧ (c = 0xF4 → hi = 0x8F)) := by
  unfold leads at h
  repeat' split at h
  all_goals first | cases h | skip
  all_goals omega
theorem scalarAt_utf8 {p : Nat} {b r : Bytes} {x : Nat} (h : scalarAt p b = .ok (x, r)) : b = utf8One x ++ r := by
  cases b with
  | nil => cases h
  | cons c b =>
    unfold scalarAt at h
    dsimp only at h
    cases e : leads c.toNat with
    | none => rw [e] at h; cases h
    | some z =>
      obtain ⟨k, lo, hi⟩ := z
      rw [e] at h
      dsimp only at h
      rcases leads_cases e with ⟨rfl, h1⟩ | ⟨rfl, h1, h2, rfl, rfl⟩ | ⟨rfl, h1, h2, h3, h4, h5, h6⟩ | ⟨rfl, h1, h2, h3, h4, h5, h6⟩
      · simp only [follow, firstBits] at h
        cases h
        unfold utf8One
        rw [if_pos h1, u8_of rfl]
        rfl
      · cases b with
        | nil => simp only [follow] at h; cases h
        | cons d b =>
          simp only [follow, firstBits] at h
          split at h
          · rename_i hd
            cases h
            have e1 : ¬ 64 * (c.toNat % 32) + d.toNat % 64 < 0x80 := by omega
            have e2 : 64 * (c.toNat % 32) + d.toNat % 64 < 0x800 := by omega
            unfold utf8One
            rw [if_neg e1, if_pos e2, u8_of (c := c) (by omega), u8_of (c := d) (by omega)]
            rfl
          · cases h
      · cases b with
        | nil => simp only [follow] at h; cases h
        | cons d b =>
          simp only [follow, firstBits] at h
          split at h
          · rename_i hd
            cases b with
            | nil => cases h
            | cons f b =>
              rw [follow] at h
              split at h
              · rename_i hf
                simp only [follow] at h
                cases h
                have e1 : ¬ 64 * (64 * (c.toNat % 16) + d.toNat % 64) + f.toNat % 64 < 0x80 := by omega
                have e2 : ¬ 64 * (64 * (c.toNat % 16) + d.toNat % 64) + f.toNat % 64 < 0x800 := by omega
                have e3 : 64 * (64 * (c.toNat % 16) + d.toNat % 64) + f.toNat % 64 < 0x10000 := by omega
                unfold utf8One
                rw [if_neg e1, if_neg e2, if_pos e3, u8_of (c := c) (by omega), u8_of (c := d) (by omega), u8_of (c := f) (by omega)]
                rfl
              · cases h
          · cases h
      · cases b with
        | nil => simp only [follow] at h; cases h
        | cons d b =>
          simp only [follow, firstBits] at h
          split at h
          · rename_i hd
            cases b with
            | nil => cases h
            | cons f b =>
              rw [follow] at h
              split at h
              · rename_i hf
                cases b with
                | nil => cases h
                | cons u b =>
                  rw [follow] at h
                  split at h
                  · rename_i hu
                    simp only [follow] at h
                    cases h
                    have e1 : ¬ 64 * (64 * (64 * (c.toNat % 8) + d.toNat % 64) + f.toNat % 64) + u.toNat % 64 < 0x80 := by omega
                    have e2 : ¬ 64 * (64 * (64 * (c.toNat % 8) + d.toNat % 64) + f.toNat % 64) + u.toNat % 64 < 0x800 := by omega
                    have e3 : ¬ 64 * (64 * (64 * (c.toNat % 8) + d.toNat % 64) + f.toNat % 64) + u.toNat % 64 < 0x10000 := by omega
                    unfold utf8One
                    rw [if_neg e1, if_neg e2, if_neg e3, u8_of (c := c) (by omega), u8_of (c := d) (by omega), u8_of (c := f) (by omega), u8_of (c := u) (by omega)]
                    rfl
                  · cases h
              · cases h
          · cases h
theorem utf8_cons (x : Nat) (l : List Nat) : utf8 (x :: l) = utf8One x ++ utf8 l := by
  unfold utf8
  rw [List.flatMap_cons]
theorem utf8_append (l m : List Nat) : utf8 (l ++ m) = utf8 l ++ utf8 m := by
  unfold utf8
  rw [List.flatMap_append]
theorem scalarsFrom_utf8 : ∀ (f p : Nat) (b : Bytes) (l : List Nat), scalarsFrom f p b = .ok l → utf8 l = b
  | f, p, [], l, h => by
    cases f <;> (simp only [scalarsFrom] at h; cases h; rfl)
  | 0, p, c :: b, l, h => by simp only [scalarsFrom] at h; cases h
  | f + 1, p, c :: b, l, h => by
    simp only [scalarsFrom] at h
    cases e : scalarAt p (c :: b) with
    | error q => rw [e] at h; cases h
    | ok y =>
      obtain ⟨x, r⟩ := y
      rw [e] at h
      dsimp only at h
      cases e2 : scalarsFrom f (p + ((c :: b).length - r.length)) r with
      | error q => rw [e2] at h; cases h
      | ok l2 =>
        rw [e2] at h
        cases h
        rw [utf8_cons, scalarsFrom_utf8 f _ r l2 e2, ← scalarAt_utf8 e]
/-- a text read is written back as it was -/
theorem scalars_utf8 {b : Bytes} {l : List Nat} (h : scalars 0 b = .ok l) : utf8 l = b := scalarsFrom_utf8 _ _ _ _ h
theorem one_pos (x : Nat) : 0 < (utf8One x).length := by
  unfold utf8One
  repeat' split
  all_goals exact Nat.succ_pos _
theorem byteAt_zero (t : List Nat) : PatSpec.byteAt t 0 = 0 := rfl
theorem byteAt_succ {t : List Nat} {i x : Nat} (h : t[i]? = some x) : PatSpec.byteAt t (i + 1) = PatSpec.byteAt t i + (utf8One x).length := by
  unfold PatSpec.byteAt
  rw [List.take_add_one, h, utf8_append, List.length_append]
  show _ + (utf8 [x]).length = _
  rw [utf8_cons]
  simp [utf8]
theorem byteAt_all (t : List Nat) : PatSpec.byteAt t t.length = (utf8 t).length := by
  unfold PatSpec.byteAt
  rw [List.take_length]
theorem byteAt_lt {t : List Nat} : ∀ {i j : Nat}, i < j → j ≤ t.length → PatSpec.byteAt t i < PatSpec.byteAt t j := by
  intro i j h
  induction h with
  | refl =>
    intro hj
    have e : t[i]? = some (t[i]'(by omega)) := List.getElem?_eq_getElem _
    rw [byteAt_succ e]
    have := one_pos (t[i]'(by omega))
    omega
  | step h ih =>
    rename_i m
    intro hj
    have e : t[m]? = some (t[m]'(by omega)) := List.getElem?_eq_getElem _
    rw [byteAt_succ e]
    have := ih (by omega)
    omega
theorem byteAt_inj {t : List Nat} {i j : Nat} (hi : i ≤ t.length) (hj : j ≤ t.length) (h : PatSpec.byteAt t i = PatSpec.byteAt t j) : i = j := by
  rcases Nat.lt_trichotomy i j with h1 | h1 | h1
  · have := byteAt_lt h1 hj; omega
  · exact h1
  · have := byteAt_lt h1 hi; omega
/-- the place at which a byte begins -/
theorem placeAt_some {t : List Nat} {i : Nat} (hi : i ≤ t.length) : PatSpec.placeAt t ((PatSpec.byteAt t i : Nat) : Int) = some i := by
  unfold PatSpec.placeAt
  cases e : (List.range (t.length + 1)).find? (fun j => ((PatSpec.byteAt t j : Nat) : Int) == ((PatSpec.byteAt t i : Nat) : Int)) with
  | none =>
    have := List.find?_eq_none.mp e i (List.mem_range.mpr (by omega))
    simp at this
  | some j =>
    have h1 := List.find?_some e
    have h2 := List.mem_range.mp (List.mem_of_find?_eq_some e)
    have h3 : PatSpec.byteAt t j = PatSpec.byteAt t i := Int.ofNat.inj (beq_iff_eq.mp h1)
    rw [byteAt_inj (by omega) hi h3]
theorem placeAt_none {t : List Nat} {k : Int} (h : ∀ i ≤ t.length, ((PatSpec.byteAt t i : Nat) : Int) ≠ k) : PatSpec.placeAt t k = none := by
  unfold PatSpec.placeAt
  rw [List.find?_eq_none]
  intro i hi
  have := h i (by have := List.mem_range.mp hi; omega)
  simpa using this
/-- the bytes between two places -/
theorem slice_bytes {b : Bytes} {l : List Nat} (h : utf8 l = b) {i j : Nat} (hij : i ≤ j) (hj : j ≤ l.length) : PatSpec.slice l i j = (b.drop (PatSpec.byteAt l i)).take (PatSpec.byteAt l j - PatSpec.byteAt l i) := by
  subst h
  have e1 : l = l.take i ++ ((l.drop i).take (j - i) ++ l.drop j) := by
    conv => lhs; rw [← List.take_append_drop i l, ← List.take_append_drop (j - i) (l.drop i), List.drop_drop]
    rw [show i + (j - i) = j by omega]
  have e2 : l.take j = l.take i ++ (l.drop i).take (j - i) := by
    have := List.take_add (l := l) (i := i) (j := j - i)
    rw [show i + (j - i) = j by omega] at this
    exact this
  have e3 : PatSpec.byteAt l j = PatSpec.byteAt l i + (PatSpec.slice l i j).length := by
    unfold PatSpec.byteAt PatSpec.slice
    rw [e2, utf8_append, List.length_append]
  rw [e3, Nat.add_sub_cancel_left]
  have e4 : utf8 l = utf8 (l.take i) ++ (PatSpec.slice l i j ++ utf8 (l.drop j)) := by
    unfold PatSpec.slice
    rw [← utf8_append, ← utf8_append, ← e1]
  rw [e4]
  unfold PatSpec.byteAt
  rw [List.drop_left, List.take_left]
end Utf
end

section
open PatUtf PatWords
namespace Ways
/-! # All ways, and the first one to each end. Pure: the specification's tables are the first ones of all ways. -/
/-- the first of each end that is not seen yet -/
def ddS (seen : List Nat) : Ends → Ends
  | [] => []
  | z :: l => if z.1 ∈ seen then ddS seen l else z :: ddS (z.1 :: seen) l
abbrev dd (l : Ends) : Ends := ddS [] l
abbrev ends (l : Ends) : List Nat := l.map (·.1)
theorem ddS_congr : ∀ (l : Ends) (s s' : List Nat), (∀ e, e ∈ s ↔ e ∈ s') → ddS s l = ddS s' l
  | [], _, _, _ => rfl
  | z :: l, s, s', h => by
    unfold ddS
    by_cases c : z.1 ∈ s
    · rw [if_pos c, if_pos ((h _).mp c)]
      exact ddS_congr l s s' h
    · rw [if_neg c, if_neg (fun x => c ((h _).mpr x))]
      rw [ddS_congr l (z.1 :: s) (z.1 :: s') (fun e => by simp only [List.mem_cons, h])]
theorem ddS_append : ∀ (l m : Ends) (s : List Nat), ddS s (l ++ m) = ddS s l ++ ddS (ends l ++ s) m
  | [], m, s => rfl
  | z :: l, m, s => by
    show ddS s (z :: (l ++ m)) = ddS s (z :: l) ++ _
    by_cases c : z.1 ∈ s
    · have e1 : ddS s (z :: (l ++ m)) = ddS s (l ++ m) := by rw [ddS, if_pos c]
      have e2 : ddS s (z :: l) = ddS s l := by rw [ddS, if_pos c]
      rw [e1, e2, ddS_append l m s]
      congr 1
      refine ddS_congr m _ _ fun e => ?_
      simp only [ends, List.map_cons, List.cons_append, List.mem_cons, List.mem_append]
      constructor
      · exact Or.inr
      · rintro (h | h)
        · exact .inr (h ▸ c)
        · exact h
    · have e1 : ddS s (z :: (l ++ m)) = z :: ddS (z.1 :: s) (l ++ m) := by rw [ddS, if_neg c]
      have e2 : ddS s (z :: l) = z :: ddS (z.1 :: s) l := by rw [ddS, if_neg c]
      rw [e1, e2, ddS_append l m (z.1 :: s), List.cons_append]
      congr 2
      refine ddS_congr m _ _ fun e => ?_
      simp only [ends, List.map_cons, List.cons_append, List.mem_cons, List.mem_append]
      constructor
      · rintro (h | h | h)
        · exact .inr (.inl h)
        · exact .inl h
        · exact .inr (.inr h)
      · rintro (h | h | h)
        · exact .inr (.inl h)
        · exact .inl h
        · exact .inr (.inr h)
theorem ddS_ends (e : Nat) : ∀ (l : Ends) (s : List Nat), e ∈ ends (ddS s l) ↔ (e ∈ ends l ∧ e ∉ s)
  | [], s => by simp [ddS]
  | z :: l, s => by
    unfold ddS
    by_cases c : z.1 ∈ s
    · rw [if_pos c, ddS_ends e l s]
      simp only [ends, List.map_cons, List.mem_cons]
      constructor
      · rintro ⟨h1, h2⟩
        exact ⟨.inr h1, h2⟩
      · rintro ⟨h1 | h1, h2⟩
        · exact absurd (h1 ▸ c) h2
        · exact ⟨h1, h2⟩
    · rw [if_neg c]
      simp only [ends, List.map_cons, List.mem_cons]
      have ih := ddS_ends e l (z.1 :: s)
      simp only [ends, List.mem_cons, not_or] at ih
      rw [ih]
      constructor
      · rintro (h | ⟨h1, h2, h3⟩)
        · subst h
          exact ⟨.inl rfl, c⟩
        · exact ⟨.inr h1, h3⟩
      · rintro ⟨h1 | h1, h2⟩
        · exact .inl h1
        · by_cases h : e = z.1
          · exact .inl h
          · exact .inr ⟨h1, h, h2⟩
theorem ddS_none : ∀ (l : Ends) (s : List Nat), (∀ e ∈ ends l, e ∈ s) → ddS s l = []
  | [], _, _ => rfl
  | z :: l, s, h => by
    unfold ddS
    rw [if_pos (h _ (List.mem_cons_self ..))]
    exact ddS_none l s fun e m => h e (List.mem_cons_of_mem _ m)
theorem ddS_sub : ∀ (l : Ends) (s : List Nat), ∀ z ∈ ddS s l, z ∈ l
  | [], _, _, h => nomatch h
  | y :: l, s, z, h => by
    unfold ddS at h
    by_cases c : y.1 ∈ s
    · rw [if_pos c] at h
      exact List.mem_cons_of_mem _ (ddS_sub l s z h)
    · rw [if_neg c] at h
      rcases List.mem_cons.mp h with h | h
      · rw [h]
        exact List.mem_cons_self ..
      · exact List.mem_cons_of_mem _ (ddS_sub l _ z h)
/-- what is mapped without a change of its end -/
theorem ddS_map (f : Nat × Caps → Nat × Caps) (hf : ∀ z, (f z).1 = z.1) : ∀ (l : Ends) (s : List Nat), ddS s (l.map f) = (ddS s l).map f
  | [], _ => rfl
  | z :: l, s => by
    show ddS s (f z :: l.map f) = _
    unfold ddS
    rw [hf z]
    by_cases c : z.1 ∈ s
    · rw [if_pos c, if_pos c]
      exact ddS_map f hf l s
    · rw [if_neg c, if_neg c, ddS_map f hf l, List.map_cons]
/-- what is sifted already -/
theorem ddS_dd : ∀ (l : Ends) (s s' : List Nat), (∀ e ∈ s', e ∈ s) → ddS s (ddS s' l) = ddS s l
  | [], _, _, _ => rfl
  | z :: l, s, s', h => by
    by_cases c' : z.1 ∈ s'
    · have e1 : ddS s' (z :: l) = ddS s' l := by rw [ddS, if_pos c']
      have e2 : ddS s (z :: l) = ddS s l := by rw [ddS, if_pos (h _ c')]
      rw [e1, e2]
      exact ddS_dd l s s' h
    · have e1 : ddS s' (z :: l) = z :: ddS (z.1 :: s') l := by rw [ddS, if_neg c']
      rw [e1]
      by_cases c : z.1 ∈ s
      · have e2 : ddS s (z :: l) = ddS s l := by rw [ddS, if_pos c]
        have e3 : ddS s (z :: ddS (z.1 :: s') l) = ddS s (ddS (z.1 :: s') l) := by rw [ddS, if_pos c]
        rw [e2, e3]
        refine ddS_dd l s (z.1 :: s') fun e m => ?_
        rcases List.mem_cons.mp m with m | m
        · exact m ▸ c
        · exact h e m
      · have e2 : ddS s (z :: l) = z :: ddS (z.1 :: s) l := by rw [ddS, if_neg c]
        have e3 : ddS s (z :: ddS (z.1 :: s') l) = z :: ddS (z.1 :: s) (ddS (z.1 :: s') l) := by rw [ddS, if_neg c]
        rw [e2, e3]
        congr 1
        refine ddS_dd l _ _ fun e m => ?_
        rcases List.mem_cons.mp m with m | m
        · rw [m]
          exact List.mem_cons_self ..
        · exact List.mem_cons_of_mem _ (h e m)
/-- followed by -/
def glue (F : Nat → Ends) (z : Nat × Caps) : Ends := (F z.1).map fun (y : Nat × Caps) => (y.1, y.2 ++ z.2)
theorem glue_ends (F : Nat → Ends) (z : Nat × Caps) : ends (glue F z) = ends (F z.1) := by
  unfold glue ends
  rw [List.map_map]
  rfl
theorem ddS_glue (F F' : Nat → Ends) (h : ∀ e s, ddS s (F e) = ddS s (F' e)) (z : Nat × Caps) (s : List Nat) : ddS s (glue F z) = ddS s (glue F' z) := by
  unfold glue
  rw [ddS_map (fun (y : Nat × Caps) => (y.1, y.2 ++ z.2)) (fun _ => rfl), ddS_map (fun (y : Nat × Caps) => (y.1, y.2 ++ z.2)) (fun _ => rfl), h]
/-- alike but for what is no first one -/
def Same (x y : Ends) : Prop := ∀ s, ddS s x = ddS s y
theorem Same.refl (x : Ends) : Same x x := fun _ => rfl
theorem Same.symm {x y : Ends} (h : Same x y) : Same y x := fun s => (h s).symm
theorem Same.trans {x y z : Ends} (h : Same x y) (k : Same y z) : Same x z := fun s => (h s).trans (k s)
theorem Same.ends {x y : Ends} (h : Same x y) (e : Nat) : e ∈ Ways.ends x ↔ e ∈ Ways.ends y := by
  have h1 := ddS_ends e x []
  have h2 := ddS_ends e y []
  rw [h []] at h1
  simp only [List.not_mem_nil, not_false_iff, and_true] at h1 h2
  rw [← h1, h2]
theorem same_dd (x : Ends) : Same (dd x) x := fun s => ddS_dd x s [] fun _ m => nomatch m
theorem Same.of_dd {x y : Ends} (h : dd x = dd y) : Same x y := (same_dd x).symm.trans (h ▸ same_dd y)
theorem Same.append {x x' y y' : Ends} (h : Same x x') (k : Same y y') : Same (x ++ y) (x' ++ y') := fun s => by
  rw [ddS_append, ddS_append, h s, k]
  congr 1
  refine ddS_congr _ _ _ fun e => ?_
  simp only [List.mem_append]
  rw [h.ends e]
theorem Same.map {x y : Ends} (f : Nat × Caps → Nat × Caps) (hf : ∀ z, (f z).1 = z.1) (h : Same x y) : Same (x.map f) (y.map f) := fun s => by
  rw [ddS_map f hf, ddS_map f hf, h s]
theorem Same.glue {F F' : Nat → Ends} (h : ∀ e, Same (F e) (F' e)) (z : Nat × Caps) : Same (Ways.glue F z) (Ways.glue F' z) := fun s => ddS_glue F F' (fun e s => h e s) z s
/-- of ways that end alike only the first needs to be followed -/
theorem same_flat_dd (F : Nat → Ends) : ∀ (l : Ends) (seenL s : List Nat), (∀ e ∈ seenL, ∀ y ∈ ends (F e), y ∈ s) → ddS s (l.flatMap (glue F)) = ddS s ((ddS seenL l).flatMap (glue F))
  | [], _, _, _ => rfl
  | z :: l, seenL, s, h => by
    rw [List.flatMap_cons]
    by_cases c : z.1 ∈ seenL
    · have e1 : ddS seenL (z :: l) = ddS seenL l := by rw [ddS, if_pos c]
      rw [e1, ddS_append, ddS_none _ s (by rw [glue_ends]; exact h _ c), List.nil_append]
      rw [same_flat_dd F l seenL _ (fun e m y hy => List.mem_append_right _ (h e m y hy))]
      refine ddS_congr _ _ _ fun e => ?_
      rw [glue_ends, List.mem_append]
      exact ⟨fun x => x.elim (h _ c e) id, .inr⟩
    · have e1 : ddS seenL (z :: l) = z :: ddS (z.1 :: seenL) l := by rw [ddS, if_neg c]
      rw [e1, List.flatMap_cons, ddS_append, ddS_append]
      congr 1
      refine same_flat_dd F l (z.1 :: seenL) _ fun e m y hy => ?_
      rw [glue_ends, List.mem_append]
      rcases List.mem_cons.mp m with m | m
      · subst m
        exact .inl hy
      · exact .inr (h e m y hy)
theorem Same.flat_right {F F' : Nat → Ends} (h : ∀ e, Same (F e) (F' e)) : ∀ l : Ends, Same (l.flatMap (Ways.glue F)) (l.flatMap (Ways.glue F'))
  | [] => Same.refl _
  | z :: l => by
    rw [List.flatMap_cons, List.flatMap_cons]
    exact (Same.glue h z).append (Same.flat_right h l)
theorem Same.flat {l l' : Ends} {F F' : Nat → Ends} (hl : Same l l') (h : ∀ e, Same (F e) (F' e)) : Same (l.flatMap (Ways.glue F)) (l'.flatMap (Ways.glue F')) := by
  have k : ∀ x : Ends, Same (x.flatMap (Ways.glue F)) ((dd x).flatMap (Ways.glue F)) := fun x s => same_flat_dd F x [] s fun _ m => nomatch m
  refine (k l).trans ?_
  have e : dd l = dd l' := hl []
  rw [e]
  exact (k l').symm.trans (Same.flat_right h l')
/-! ## firstEach -/
theorem firstEach_go (n : Nat) : ∀ (l acc : Ends) (v : Array Bool) (s : List Nat), (∀ z ∈ l, z.1 ≤ n) → v.size = n + 1 → (∀ e ≤ n, v.getD e false = true ↔ e ∈ s) →
    (l.foldl (fun (x : Ends × Array Bool) (z : Nat × Caps) => if x.2.getD z.1 false = true then x else (z :: x.1, x.2.setIfInBounds z.1 true)) (acc, v)).1 = (ddS s l).reverse ++ acc
  | [], acc, v, s, _, _, _ => rfl
  | z :: l, acc, v, s, hb, hv, hs => by
    rw [List.foldl_cons]
    have hz := hb z (List.mem_cons_self ..)
    by_cases c : z.1 ∈ s
    · rw [if_pos ((hs _ hz).mpr c), ddS, if_pos c]
      exact firstEach_go n l acc v s (fun y m => hb y (List.mem_cons_of_mem _ m)) hv hs
    · rw [if_neg (fun x => c ((hs _ hz).mp x)), ddS, if_neg c]
      rw [firstEach_go n l (z :: acc) (v.setIfInBounds z.1 true) (z.1 :: s) (fun y m => hb y (List.mem_cons_of_mem _ m)) (by rw [Array.size_setIfInBounds, hv]) ?_]
      · rw [List.reverse_cons, List.append_assoc]
        rfl
      · intro e he
        have h0 := hs e he
        rw [Array.getD_eq_getD_getElem?] at h0 ⊢
        rw [Array.getElem?_setIfInBounds]
        by_cases ce : z.1 = e
        · subst ce
          rw [if_pos rfl, if_pos (by omega)]
          simp
        · rw [if_neg ce, h0]
          simp only [List.mem_cons]
          exact ⟨.inr, fun x => x.resolve_left fun y => ce y.symm⟩
theorem firstEach_dd {n : Nat} {l : Ends} (h : ∀ z ∈ l, z.1 ≤ n) : firstEach n l = dd l := by
  unfold firstEach
  rw [firstEach_go n l [] _ [] h (by simp) ?_]
  · simp
  · intro e he
    rw [Array.getD_eq_getD_getElem?, Array.getElem?_replicate, if_pos (by omega)]
    simp
end Ways
end

section
open PatUtf PatWords
namespace Ways
/-! ## Again and again -/
def more (most : Option Nat) (k : Nat) : Bool := most.all fun (x : Nat) => decide (k < x)
/-- all ways of a repetition from a place, k gone through already (f: as many steps as there can be) -/
def repW (w : Nat → Ends) (m : Nat) (most : Option Nat) : Nat → Nat → Nat → Ends
  | 0, _, _ => []
  | f + 1, k, i => (if more most k = true then ((w i).filter fun z => !(decide (z.1 = i) && decide (m ≤ k))).flatMap (glue fun j => repW w m most f (k + 1) j) else []) ++ (if m ≤ k then [(i, [])] else [])
/-- an end of a repetition -/
inductive Reach (w : Nat → Ends) (m : Nat) (most : Option Nat) : Nat → Nat → Nat → Prop
  | stop {k i : Nat} : m ≤ k → Reach w m most k i i
  | step {k i e : Nat} {z : Nat × Caps} : more most k = true → z ∈ w i → ¬ (z.1 = i ∧ m ≤ k) → Reach w m most (k + 1) z.1 e → Reach w m most k i e
/-- from a place not before it, not behind the text's end -/
def Fwd (w : Nat → Ends) (n : Nat) : Prop := ∀ i, i ≤ n → ∀ z ∈ w i, i ≤ z.1 ∧ z.1 ≤ n
section
variable {w : Nat → Ends} {m n : Nat} {most : Option Nat}
theorem mem_ends {l : Ends} {e : Nat} : e ∈ ends l ↔ ∃ z ∈ l, z.1 = e := by
  unfold ends
  rw [List.mem_map]
theorem keep_of {z : Nat × Caps} {k i m : Nat} (h : ¬ (z.1 = i ∧ m ≤ k)) : (!(decide (z.1 = i) && decide (m ≤ k))) = true := by
  by_cases a : z.1 = i
  · by_cases b : m ≤ k
    · exact absurd ⟨a, b⟩ h
    · rw [decide_eq_false b, Bool.and_false]
      rfl
  · rw [decide_eq_false a, Bool.false_and]
    rfl
theorem filt {k i : Nat} {z : Nat × Caps} : z ∈ (w i).filter (fun z => !(decide (z.1 = i) && decide (m ≤ k))) ↔ z ∈ w i ∧ ¬ (z.1 = i ∧ m ≤ k) := by
  rw [List.mem_filter]
  constructor
  · rintro ⟨h1, h2⟩
    refine ⟨h1, fun x => ?_⟩
    rw [decide_eq_true x.1, decide_eq_true x.2] at h2
    cases h2
  · rintro ⟨h1, h2⟩
    exact ⟨h1, keep_of h2⟩
theorem ends_flat {l : Ends} {F : Nat → Ends} {e : Nat} : e ∈ ends (l.flatMap (glue F)) ↔ ∃ z ∈ l, e ∈ ends (F z.1) := by
  rw [mem_ends]
  constructor
  · rintro ⟨y, hy, rfl⟩
    obtain ⟨z, hz, hy⟩ := List.mem_flatMap.mp hy
    refine ⟨z, hz, ?_⟩
    rw [← glue_ends F z]
    exact mem_ends.mpr ⟨y, hy, rfl⟩
  · rintro ⟨z, hz, he⟩
    rw [← glue_ends F z] at he
    obtain ⟨y, hy, rfl⟩ := mem_ends.mp he
    exact ⟨y, List.mem_flatMap.mpr ⟨z, hz, hy⟩, rfl⟩
theorem repW_sound : ∀ (f k i e : Nat), e ∈ ends (repW w m most f k i) → Reach w m most k i e
  | 0, _, _, _, h => nomatch h
  | f + 1, k, i, e, h => by
    unfold repW at h
    rw [ends, List.map_append, List.mem_append] at h
    rcases h with h | h
    · by_cases c : more most k = true
      · rw [if_pos c] at h
        obtain ⟨z, hz, he⟩ := ends_flat.mp h
        obtain ⟨h1, h2⟩ := filt.mp hz
        exact .step c h1 h2 (repW_sound f (k + 1) z.1 e he)
      · rw [if_neg c] at h
        cases h
    · by_cases c : m ≤ k
      · rw [if_pos c] at h
        have : e = i := by simpa using h
        subst this
        exact .stop c
      · rw [if_neg c] at h
        cases h
theorem repW_complete (hw : Fwd w n) {k i e : Nat} (h : Reach w m most k i e) : ∀ f, i ≤ n → (m - k) + (n - i) + 1 ≤ f → e ∈ ends (repW w m most f k i) := by
  induction h with
  | @stop k i c =>
    intro f hi hf
    obtain ⟨f, rfl⟩ : ∃ g, f = g + 1 := ⟨f - 1, by omega⟩
    unfold repW
    rw [ends, List.map_append, if_pos c]
    exact List.mem_append_right _ (by simp)
  | @step k i e z c hz hne _ ih =>
    intro f hi hf
    obtain ⟨f, rfl⟩ : ∃ g, f = g + 1 := ⟨f - 1, by omega⟩
    obtain ⟨h1, h2⟩ := hw i hi z hz
    unfold repW
    rw [ends, List.map_append, if_pos c]
    refine List.mem_append_left _ (ends_flat.mpr ⟨z, filt.mpr ⟨hz, hne⟩, ih f h2 ?_⟩)
    by_cases cm : m ≤ k
    · have : z.1 ≠ i := fun x => hne ⟨x, cm⟩
      omega
    · omega
theorem reach_le (hw : Fwd w n) {k i e : Nat} (h : Reach w m most k i e) : i ≤ n → i ≤ e ∧ e ≤ n := by
  induction h with
  | stop => exact fun hi => ⟨Nat.le_refl _, hi⟩
  | @step k i e z c hz hne _ ih =>
    intro hi
    obtain ⟨h1, h2⟩ := hw i hi z hz
    obtain ⟨h3, h4⟩ := ih h2
    exact ⟨Nat.le_trans h1 h3, h4⟩
/-- how often it has been gone through, as far as it matters -/
def kk (m : Nat) (most : Option Nat) (k : Nat) : Nat := if most.isNone = true then min k m else k
theorem reach_kk {k i e : Nat} (h : Reach w m most k i e) : ∀ k', kk m most k' = kk m most k → Reach w m most k' i e := by
  induction h with
  | @stop k i c =>
    intro k' hk
    unfold kk at hk
    cases most with
    | none =>
      simp only [Option.isNone_none, if_true] at hk
      exact .stop (by omega)
    | some x =>
      simp only [Option.isNone_some, Bool.false_eq_true, if_false] at hk
      exact .stop (by omega)
  | @step k i e z c hz hne _ ih =>
    intro k' hk
    unfold kk at hk ih
    cases most with
    | none =>
      simp only [Option.isNone_none, if_true] at hk ih
      exact .step rfl hz (fun x => hne ⟨x.1, by omega⟩) (ih (k' + 1) (by omega))
    | some x =>
      simp only [Option.isNone_some, Bool.false_eq_true, if_false] at hk ih
      subst hk
      exact .step c hz hne (ih (k' + 1) rfl)
def keyOf (n m : Nat) (most : Option Nat) (k i : Nat) : Nat := kk m most k * (n + 1) + i
theorem key_inj {k i k' i' : Nat} (hi : i ≤ n) (hi' : i' ≤ n) (h : keyOf n m most k i = keyOf n m most k' i') : kk m most k = kk m most k' ∧ i = i' := by
  unfold keyOf at h
  have h1 : (kk m most k * (n + 1) + i) / (n + 1) = kk m most k := by
    rw [Nat.mul_comm, Nat.mul_add_div (by omega), Nat.div_eq_of_lt (by omega), Nat.add_zero]
  have h2 : (kk m most k' * (n + 1) + i') / (n + 1) = kk m most k' := by
    rw [Nat.mul_comm, Nat.mul_add_div (by omega), Nat.div_eq_of_lt (by omega), Nat.add_zero]
  have h3 : kk m most k = kk m most k' := by rw [← h1, ← h2, h]
  rw [h3] at h
  exact ⟨h3, by omega⟩
theorem key_up {k i j : Nat} (hi : i ≤ n) (hij : i ≤ j) (hne : ¬ (j = i ∧ m ≤ k)) : keyOf n m most k i < keyOf n m most (k + 1) j := by
  unfold keyOf
  have up : kk m most k ≤ kk m most (k + 1) := by
    unfold kk
    split <;> omega
  by_cases c : kk m most k < kk m most (k + 1)
  · have : (kk m most k + 1) * (n + 1) ≤ kk m most (k + 1) * (n + 1) := Nat.mul_le_mul_right _ c
    rw [Nat.add_mul] at this
    omega
  · have e : kk m most (k + 1) = kk m most k := by omega
    have : m ≤ k := by
      unfold kk at e
      split at e <;> omega
    rw [e]
    have : j ≠ i := fun x => hne ⟨x, by assumption⟩
    omega
/-- all that can be reached from a key's place has been told -/
def Done (w : Nat → Ends) (n m : Nat) (most : Option Nat) (q : Nat) (out : Ends) : Prop := ∀ k i e, i ≤ n → keyOf n m most k i = q → Reach w m most k i e → e ∈ ends out
theorem Done.more {q : Nat} {out out' : Ends} (h : Done w n m most q out) (k : ∀ e ∈ ends out, e ∈ ends out') : Done w n m most q out' := fun a b e hb hk hr => k e (h a b e hb hk hr)
/-- what one look of the walk does -/
structure Walked (w : Nat → Ends) (n m : Nat) (most : Option Nat) (lowest : Nat) (s s' : Been) (new : Ends) : Prop where
  told : Same s'.2.reverse (s.2.reverse ++ new)
  stays : ∀ q, s.1.getD q false = true → s'.1.getD q false = true
  done : ∀ q, s'.1.getD q false = true → s.1.getD q false = true ∨ (lowest ≤ q ∧ Done w n m most q s'.2)
  inn : (∀ e ∈ ends s.2, e ≤ n) → ∀ e ∈ ends s'.2, e ≤ n
theorem ends_rev {l : Ends} {e : Nat} : e ∈ ends l.reverse ↔ e ∈ ends l := by
  unfold ends
  rw [List.map_reverse, List.mem_reverse]
theorem Walked.ends {lowest : Nat} {s s' : Been} {new : Ends} (h : Walked w n m most lowest s s' new) (e : Nat) : e ∈ Ways.ends s'.2 ↔ e ∈ Ways.ends s.2 ∨ e ∈ Ways.ends new := by
  have := h.told.ends e
  rw [ends_rev] at this
  rw [this, Ways.ends, List.map_append, List.mem_append]
  show e ∈ Ways.ends s.2.reverse ∨ _ ↔ _
  rw [ends_rev]
theorem Walked.refl {lowest : Nat} {s : Been} : Walked w n m most lowest s s [] := ⟨by rw [List.append_nil]; exact Same.refl _, fun _ h => h, fun _ h => .inl h, fun h => h⟩
theorem Walked.trans {lowest : Nat} {s s1 s2 : Been} {a b : Ends} (h : Walked w n m most lowest s s1 a) (k : Walked w n m most lowest s1 s2 b) : Walked w n m most lowest s s2 (a ++ b) where
  told := by
    refine k.told.trans ?_
    rw [← List.append_assoc]
    exact h.told.append (Same.refl b)
  stays q hq := k.stays q (h.stays q hq)
  done q hq := by
    rcases k.done q hq with h1 | h1
    · rcases h.done q h1 with h2 | h2
      · exact .inl h2
      · exact .inr ⟨h2.1, h2.2.more fun e he => (k.ends e).mpr (.inl he)⟩
    · exact .inr h1
  inn hs := k.inn (h.inn hs)
theorem Walked.lower {l l' : Nat} {s s' : Been} {a : Ends} (h : Walked w n m most l s s' a) (hl : l' ≤ l) : Walked w n m most l' s s' a :=
  ⟨h.told, h.stays, fun q hq => (h.done q hq).imp id fun x => ⟨Nat.le_trans hl x.1, x.2⟩, h.inn⟩
def withC (c : Caps) (l : Ends) : Ends := l.map fun (y : Nat × Caps) => (y.1, y.2 ++ c)
theorem withC_ends (c : Caps) (l : Ends) : Ways.ends (withC c l) = Ways.ends l := by
  unfold withC Ways.ends
  rw [List.map_map]
  rfl
theorem withC_append (c : Caps) (l l' : Ends) : withC c (l ++ l') = withC c l ++ withC c l' := List.map_append
theorem withC_glue (c : Caps) (F : Nat → Ends) (z : Nat × Caps) : withC c (glue F z) = withC (z.2 ++ c) (F z.1) := by
  unfold withC glue
  rw [List.map_map]
  congr 1
  funext y
  simp [List.append_assoc]
theorem getD_set {v : Array Bool} {i q : Nat} (h : (v.setIfInBounds i true).getD q false = true) : v.getD q false = true ∨ q = i := by
  rw [Array.getD_eq_getD_getElem?] at h ⊢
  rw [Array.getElem?_setIfInBounds] at h
  by_cases c : i = q
  · exact .inr c.symm
  · rw [if_neg c] at h
    exact .inl h
theorem getD_stays {v : Array Bool} {i q : Nat} (h : v.getD q false = true) : (v.setIfInBounds i true).getD q false = true := by
  rw [Array.getD_eq_getD_getElem?] at h ⊢
  rw [Array.getElem?_setIfInBounds]
  by_cases c : i = q
  · subst c
    rw [if_pos rfl]
    by_cases b : i < v.size
    · rw [if_pos b]
      rfl
    · rw [Array.getElem?_eq_none (by omega)] at h
      cases h
  · rw [if_neg c]
    exact h
/-- **The walk with a record of where it has been tells the first ways.** -/
theorem loop_walked (hw : Fwd w n) : ∀ (f k i : Nat) (c : Caps) (s : Been), i ≤ n → (m - k) + (n - i) + 1 ≤ f → (∀ q, s.1.getD q false = true → keyOf n m most k i ≤ q → Done w n m most q s.2) →
    Walked w n m most (keyOf n m most k i) s (loop w n m most f k i c s) (withC c (repW w m most f k i))
  | 0, _, _, _, _, _, hf, _ => by omega
  | f + 1, k, i, c, s, hi, hf, hs => by
    have ekey : (if most.isNone = true then min k m else k) * (n + 1) + i = keyOf n m most k i := rfl
    rw [loop]
    simp only [ekey]
    by_cases cv : s.1.getD (keyOf n m most k i) false = true
    · rw [if_pos cv]
      have hd := hs _ cv (Nat.le_refl _)
      refine ⟨fun x => ?_, fun _ h => h, fun _ h => .inl h, fun h => h⟩
      rw [ddS_append, ddS_none (withC c (repW w m most (f + 1) k i)), List.append_nil]
      intro e he
      rw [withC_ends] at he
      exact List.mem_append_left _ (ends_rev.mpr (hd k i e hi rfl (repW_sound _ _ _ _ he)))
    · rw [if_neg cv]
      -- the children, from the left
      have kids : ∀ (l : Ends) (t : Been), (∀ z ∈ l, z ∈ w i) → (∀ q, t.1.getD q false = true → keyOf n m most k i < q → Done w n m most q t.2) →
          Walked w n m most (keyOf n m most k i + 1) t (l.foldl (fun (t : Been) (z : Nat × Caps) => if z.1 = i ∧ m ≤ k then t else loop w n m most f (k + 1) z.1 (z.2 ++ c) t) t)
            (withC c ((l.filter fun z => !(decide (z.1 = i) && decide (m ≤ k))).flatMap (glue fun j => repW w m most f (k + 1) j))) := by
        intro l
        induction l with
        | nil => exact fun t _ _ => Walked.refl
        | cons z l ih =>
          intro t hl ht
          rw [List.foldl_cons]
          by_cases cz : z.1 = i ∧ m ≤ k
          · rw [if_pos cz, List.filter_cons_of_neg (by simp [cz])]
            exact ih t (fun y hy => hl y (List.mem_cons_of_mem _ hy)) ht
          · rw [if_neg cz, List.filter_cons_of_pos (by exact keep_of cz), List.flatMap_cons, withC_append, withC_glue]
            obtain ⟨h1, h2⟩ := hw i hi z (hl z (List.mem_cons_self ..))
            have hup : keyOf n m most k i < keyOf n m most (k + 1) z.1 := key_up hi h1 cz
            have step := loop_walked hw f (k + 1) z.1 (z.2 ++ c) t h2 (by
              by_cases cm : m ≤ k
              · have : z.1 ≠ i := fun x => cz ⟨x, cm⟩
                omega
              · omega) (fun q hq hle => ht q hq (Nat.lt_of_lt_of_le hup hle))
            refine (step.lower hup).trans (ih _ (fun y hy => hl y (List.mem_cons_of_mem _ hy)) fun q hq hlt => ?_)
            rcases step.done q hq with h3 | h3
            · exact (ht q h3 hlt).more fun e he => (step.ends e).mpr (.inl he)
            · exact h3.2
      have hs1 : ∀ q, (s.1.setIfInBounds (keyOf n m most k i) true).getD q false = true → keyOf n m most k i < q → Done w n m most q s.2 := fun q hq hlt => by
        rcases getD_set hq with h | h
        · exact hs q h (Nat.le_of_lt hlt)
        · omega
      -- behind the children
      have mid : ∃ new, Walked w n m most (keyOf n m most k i + 1) (s.1.setIfInBounds (keyOf n m most k i) true, s.2)
          (if (most.all fun (x : Nat) => decide (k < x)) = true then (w i).foldl (fun (t : Been) (z : Nat × Caps) => if z.1 = i ∧ m ≤ k then t else loop w n m most f (k + 1) z.1 (z.2 ++ c) t) (s.1.setIfInBounds (keyOf n m most k i) true, s.2) else (s.1.setIfInBounds (keyOf n m most k i) true, s.2)) (withC c new) ∧
          repW w m most (f + 1) k i = new ++ (if m ≤ k then [(i, [])] else []) := by
        by_cases cm : more most k = true
        · refine ⟨_, ?_, by rw [repW, if_pos cm]⟩
          rw [if_pos (show (most.all fun (x : Nat) => decide (k < x)) = true from cm)]
          exact kids (w i) _ (fun _ h => h) hs1
        · refine ⟨[], ?_, by rw [repW, if_neg cm]⟩
          rw [if_neg (show ¬ (most.all fun (x : Nat) => decide (k < x)) = true from cm)]
          exact Walked.refl
      obtain ⟨new, W, enew⟩ := mid
      generalize (if (most.all fun (x : Nat) => decide (k < x)) = true then (w i).foldl (fun (t : Been) (z : Nat × Caps) => if z.1 = i ∧ m ≤ k then t else loop w n m most f (k + 1) z.1 (z.2 ++ c) t) (s.1.setIfInBounds (keyOf n m most k i) true, s.2) else (s.1.setIfInBounds (keyOf n m most k i) true, s.2)) = s2 at W ⊢
      -- the place itself
      have fin : ∀ s3 : Been, s3.1 = s2.1 → Same s3.2.reverse (s.2.reverse ++ withC c (repW w m most (f + 1) k i)) → ((∀ e ∈ Ways.ends s.2, e ≤ n) → ∀ e ∈ Ways.ends s3.2, e ≤ n) → (∀ e ∈ Ways.ends s2.2, e ∈ Ways.ends s3.2) →
          Walked w n m most (keyOf n m most k i) s s3 (withC c (repW w m most (f + 1) k i)) := by
        intro s3 e1 htold hinn hmore
        have hend : ∀ e, e ∈ Ways.ends s3.2 ↔ e ∈ Ways.ends s.2 ∨ e ∈ Ways.ends (repW w m most (f + 1) k i) := fun e => by
          have := htold.ends e
          rw [ends_rev] at this
          rw [this, Ways.ends, List.map_append, List.mem_append]
          show e ∈ Ways.ends s.2.reverse ∨ e ∈ Ways.ends (withC c _) ↔ _
          rw [ends_rev, withC_ends]
        refine ⟨htold, fun q hq => ?_, fun q hq => ?_, hinn⟩
        · rw [e1]
          exact W.stays q (getD_stays hq)
        · rw [e1] at hq
          rcases W.done q hq with h | h
          · rcases getD_set h with h | h
            · exact .inl h
            · subst h
              refine .inr ⟨Nat.le_refl _, fun k' i' e hi' hk' hr => ?_⟩
              obtain ⟨hkk, rfl⟩ := key_inj hi' hi hk'
              exact (hend e).mpr (.inr (repW_complete hw (reach_kk hr k hkk.symm) (f + 1) hi hf))
          · exact .inr ⟨Nat.le_of_succ_le h.1, h.2.more hmore⟩
      by_cases cm : m ≤ k
      · rw [if_pos cm]
        rw [if_pos cm] at enew
        refine fin (s2.1, (i, c) :: s2.2) rfl ?_ ?_ ?_
        · rw [enew, withC_append, ← List.append_assoc, List.reverse_cons]
          refine W.told.append ?_
          show Same [(i, c)] [(i, [] ++ c)]
          exact Same.refl _
        · intro hin e he
          rcases List.mem_cons.mp he with he | he
          · have : e = i := he
            omega
          · exact W.inn hin e he
        · exact fun e he => List.mem_cons_of_mem _ he
      · rw [if_neg cm]
        rw [if_neg cm, List.append_nil] at enew
        refine fin s2 rfl ?_ (fun hin => W.inn hin) (fun e he => he)
        rw [enew]
        exact W.told
end
end Ways
end

section
open PatUtf PatWords
namespace Ways
/-! ## The tables tell the first ways of all -/
/-- **All ways** through a pattern from a place, in their order. -/
def allW (t : Text) : Pat → Nat → Ends
  | .nothing, i => [(i, [])]
  | .any, i => if i < t.length then [(i + 1, [])] else []
  | .cls neg l, i => match t[i]? with
    | some x => if (inSet l x != neg) = true then [(i + 1, [])] else []
    | none => []
  | .first, i => if i = 0 then [(i, [])] else []
  | .last, i => if i = t.length then [(i, [])] else []
  | .edge, i => if isEdge t i = true then [(i, [])] else []
  | .seq a b, i => (allW t a i).flatMap (glue (allW t b))
  | .alt a b, i => allW t a i ++ allW t b i
  | .rep a m n, i => repW (allW t a) m n (m + t.length + 2) 0 i
  | .cap n a, i => (allW t a i).map fun (z : Nat × Caps) => (z.1, (n, i, z.1) :: z.2)
theorem at_tableOf {n i : Nat} (f : Nat → Ends) (h : i ≤ n) : (tableOf n f).at_ i = f i := by
  unfold tableOf Table.at_
  rw [Array.getD_eq_getD_getElem?, List.getElem?_toArray, List.getElem?_map, List.getElem?_range (by omega)]
  rfl
theorem repW_le {w : Nat → Ends} {n m : Nat} {most : Option Nat} (hw : Fwd w n) {f k i : Nat} (hi : i ≤ n) : ∀ z ∈ repW w m most f k i, i ≤ z.1 ∧ z.1 ≤ n := fun z hz =>
  reach_le hw (repW_sound f k i z.1 (mem_ends.mpr ⟨z, hz, rfl⟩)) hi
theorem flat_le {n i : Nat} {l : Ends} {F : Nat → Ends} (hl : ∀ z ∈ l, i ≤ z.1 ∧ z.1 ≤ n) (hF : Fwd F n) : ∀ z ∈ l.flatMap (glue F), i ≤ z.1 ∧ z.1 ≤ n := fun z hz => by
  obtain ⟨y, hy, hz⟩ := List.mem_flatMap.mp hz
  obtain ⟨h1, h2⟩ := hl y hy
  unfold glue at hz
  obtain ⟨x, hx, rfl⟩ := List.mem_map.mp hz
  obtain ⟨h3, h4⟩ := hF y.1 h2 x hx
  exact ⟨Nat.le_trans h1 h3, h4⟩
theorem allW_fwd (t : Text) : ∀ p : Pat, Fwd (allW t p) t.length
  | .nothing, i, hi, z, hz => by
    rw [allW] at hz
    rw [List.mem_singleton.mp hz]
    exact ⟨Nat.le_refl _, hi⟩
  | .any, i, hi, z, hz => by
    rw [allW] at hz
    split at hz
    · rw [List.mem_singleton.mp hz]
      exact ⟨Nat.le_succ _, by assumption⟩
    · cases hz
  | .cls neg l, i, hi, z, hz => by
    rw [allW] at hz
    split at hz
    · rename_i x hx
      split at hz
      · rw [List.mem_singleton.mp hz]
        exact ⟨Nat.le_succ _, (List.getElem?_eq_some_iff.mp hx).1⟩
      · cases hz
    · cases hz
  | .first, i, hi, z, hz => by
    rw [allW] at hz
    split at hz
    · rw [List.mem_singleton.mp hz]
      exact ⟨Nat.le_refl _, hi⟩
    · cases hz
  | .last, i, hi, z, hz => by
    rw [allW] at hz
    split at hz
    · rw [List.mem_singleton.mp hz]
      exact ⟨Nat.le_refl _, hi⟩
    · cases hz
  | .edge, i, hi, z, hz => by
    rw [allW] at hz
    split at hz
    · rw [List.mem_singleton.mp hz]
      exact ⟨Nat.le_refl _, hi⟩
    · cases hz
  | .seq a b, i, hi, z, hz => by
    rw [allW] at hz
    exact flat_le (allW_fwd t a i hi) (allW_fwd t b) z hz
  | .alt a b, i, hi, z, hz => by
    rw [allW] at hz
    rcases List.mem_append.mp hz with h | h
    · exact allW_fwd t a i hi z h
    · exact allW_fwd t b i hi z h
  | .rep a m n, i, hi, z, hz => by
    rw [allW] at hz
    exact repW_le (allW_fwd t a) hi z hz
  | .cap n a, i, hi, z, hz => by
    rw [allW] at hz
    obtain ⟨y, hy, rfl⟩ := List.mem_map.mp hz
    exact allW_fwd t a i hi y hy
theorem ddS_filter (p : Nat → Bool) : ∀ (l : Ends) (s s' : List Nat), (∀ e, p e = true → (e ∈ s ↔ e ∈ s')) → ddS s (l.filter fun z => p z.1) = (ddS s' l).filter fun z => p z.1
  | [], _, _, _ => rfl
  | z :: l, s, s', h => by
    by_cases cp : p z.1 = true
    · rw [List.filter_cons_of_pos (by exact cp)]
      by_cases c : z.1 ∈ s
      · have e1 : ddS s (z :: l.filter fun z => p z.1) = ddS s (l.filter fun z => p z.1) := by rw [ddS, if_pos c]
        have e2 : ddS s' (z :: l) = ddS s' l := by rw [ddS, if_pos ((h _ cp).mp c)]
        rw [e1, e2]
        exact ddS_filter p l s s' h
      · have e1 : ddS s (z :: l.filter fun z => p z.1) = z :: ddS (z.1 :: s) (l.filter fun z => p z.1) := by rw [ddS, if_neg c]
        have e2 : ddS s' (z :: l) = z :: ddS (z.1 :: s') l := by rw [ddS, if_neg (fun x => c ((h _ cp).mpr x))]
        rw [e1, e2, List.filter_cons_of_pos (by exact cp)]
        congr 1
        refine ddS_filter p l _ _ fun e he => ?_
        simp only [List.mem_cons, h e he]
    · rw [List.filter_cons_of_neg (by exact cp)]
      by_cases c : z.1 ∈ s'
      · have e2 : ddS s' (z :: l) = ddS s' l := by rw [ddS, if_pos c]
        rw [e2]
        exact ddS_filter p l s s' h
      · have e2 : ddS s' (z :: l) = z :: ddS (z.1 :: s') l := by rw [ddS, if_neg c]
        rw [e2, List.filter_cons_of_neg (by exact cp)]
        refine ddS_filter p l _ _ fun e he => ?_
        rw [List.mem_cons, h e he]
        exact ⟨.inr, fun x => x.resolve_left fun y => cp (y ▸ he)⟩
theorem same_filter (p : Nat → Bool) {x y : Ends} (h : Same x y) : Same (x.filter fun z => p z.1) (y.filter fun z => p z.1) := fun s => by
  rw [ddS_filter p x s s (fun _ _ => Iff.rfl), ddS_filter p y s s (fun _ _ => Iff.rfl), h s]
/-- ways that are alike may stand for one another in a repetition -/
theorem repW_same {w w' : Nat → Ends} {n m : Nat} {most : Option Nat} (hw : Fwd w n) (hw' : Fwd w' n) (h : ∀ i ≤ n, Same (w i) (w' i)) : ∀ f k i, i ≤ n → Same (repW w m most f k i) (repW w' m most f k i)
  | 0, _, _, _ => Same.refl _
  | f + 1, k, i, hi => by
    unfold repW
    refine Same.append ?_ (Same.refl _)
    by_cases c : more most k = true
    · rw [if_pos c, if_pos c]
      -- only places of the text are met: elsewhere any ways will do
      have key : ∀ l : Ends, (∀ z ∈ l, z.1 ≤ n) → Same (l.flatMap (glue fun j => repW w m most f (k + 1) j)) (l.flatMap (glue fun j => repW w' m most f (k + 1) j)) := by
        intro l
        induction l with
        | nil => exact fun _ => Same.refl _
        | cons z l ih =>
          intro hl
          rw [List.flatMap_cons, List.flatMap_cons]
          refine Same.append ?_ (ih fun y hy => hl y (List.mem_cons_of_mem _ hy))
          exact (repW_same hw hw' h f (k + 1) z.1 (hl z (List.mem_cons_self ..))).map _ fun _ => rfl
      have e1 := key ((w i).filter fun z => !(decide (z.1 = i) && decide (m ≤ k))) (fun z hz => (hw i hi z (List.mem_filter.mp hz).1).2)
      refine e1.trans ?_
      have e2 : Same ((w i).filter fun z => !(decide (z.1 = i) && decide (m ≤ k))) ((w' i).filter fun z => !(decide (z.1 = i) && decide (m ≤ k))) := same_filter (fun e => !(decide (e = i) && decide (m ≤ k))) (h i hi)
      exact e2.flat fun _ => Same.refl _
    · rw [if_neg c, if_neg c]
      exact Same.refl _
theorem withC_nil (l : Ends) : withC [] l = l := by
  unfold withC
  have : (fun (y : Nat × Caps) => (y.1, y.2 ++ ([] : Caps))) = id := by
    funext y
    simp
  rw [this, List.map_id]
/-- **Each table tells, of each place, the first ways of all.** -/
theorem table_all (t : Text) : ∀ (p : Pat) (i : Nat), i ≤ t.length → (table t p).at_ i = dd (allW t p i)
  | .nothing, i, hi => by rw [table, at_tableOf _ hi, allW]; rfl
  | .any, i, hi => by
    rw [table, at_tableOf _ hi, allW]
    split <;> rfl
  | .cls neg l, i, hi => by
    rw [table, at_tableOf _ hi, allW]
    cases t[i]? with
    | none => rfl
    | some x =>
      dsimp only
      split <;> rfl
  | .first, i, hi => by
    rw [table, at_tableOf _ hi, allW]
    split <;> rfl
  | .last, i, hi => by
    rw [table, at_tableOf _ hi, allW]
    split <;> rfl
  | .edge, i, hi => by
    rw [table, at_tableOf _ hi, allW]
    split <;> rfl
  | .seq a b, i, hi => by
    rw [table]
    rw [at_tableOf _ hi, allW, table_all t a i hi]
    have hb : ∀ z ∈ dd (allW t a i), z.1 ≤ t.length := fun z hz => (allW_fwd t a i hi z (ddS_sub _ _ z hz)).2
    have e1 : ((dd (allW t a i)).flatMap fun (z : Nat × Caps) => ((table t b).at_ z.1).map fun (y : Nat × Caps) => (y.1, y.2 ++ z.2)) = (dd (allW t a i)).flatMap (glue fun j => dd (allW t b j)) := by
      have key : ∀ l : Ends, (∀ z ∈ l, z.1 ≤ t.length) → (l.flatMap fun (z : Nat × Caps) => ((table t b).at_ z.1).map fun (y : Nat × Caps) => (y.1, y.2 ++ z.2)) = l.flatMap (glue fun j => dd (allW t b j)) := by
        intro l
        induction l with
        | nil => exact fun _ => rfl
        | cons z l ih =>
          intro hl
          rw [List.flatMap_cons, List.flatMap_cons, ih fun y hy => hl y (List.mem_cons_of_mem _ hy), table_all t b z.1 (hl z (List.mem_cons_self ..))]
          rfl
      exact key _ hb
    rw [e1, firstEach_dd]
    · exact ((same_dd (allW t a i)).flat fun e => same_dd (allW t b e)) []
    · intro z hz
      obtain ⟨y, hy, hz⟩ := List.mem_flatMap.mp hz
      unfold glue at hz
      obtain ⟨x, hx, rfl⟩ := List.mem_map.mp hz
      exact (allW_fwd t b y.1 (hb y hy) x (ddS_sub _ _ x hx)).2
  | .alt a b, i, hi => by
    rw [table]
    rw [at_tableOf _ hi, allW, table_all t a i hi, table_all t b i hi, firstEach_dd]
    · exact ((same_dd (allW t a i)).append (same_dd (allW t b i))) []
    · intro z hz
      rcases List.mem_append.mp hz with h | h
      · exact (allW_fwd t a i hi z (ddS_sub _ _ z h)).2
      · exact (allW_fwd t b i hi z (ddS_sub _ _ z h)).2
  | .rep a m n, i, hi => by
    rw [table]
    rw [at_tableOf _ hi, allW]
    have hwf : Fwd (table t a).at_ t.length := fun j hj z hz => by
      rw [table_all t a j hj] at hz
      exact allW_fwd t a j hj z (ddS_sub _ _ z hz)
    have W := loop_walked (w := (table t a).at_) (n := t.length) (m := m) (most := n) hwf (m + t.length + 2) 0 i [] (Array.replicate ((max m (n.getD 0) + 2) * (t.length + 1)) false, []) hi (by omega) (fun q hq => by
      have : (Array.replicate ((max m (n.getD 0) + 2) * (t.length + 1)) false).getD q false = true := hq
      rw [Array.getD_eq_getD_getElem?, Array.getElem?_replicate] at this
      split at this <;> cases this)
    have hin := W.inn (fun e he => nomatch he)
    rw [firstEach_dd]
    · have h1 := W.told []
      refine h1.trans ?_
      show ddS [] ([] ++ withC [] _) = _
      rw [List.nil_append, withC_nil]
      exact repW_same hwf (allW_fwd t a) (fun j hj => by rw [table_all t a j hj]; exact same_dd _) _ 0 i hi []
    · intro z hz
      exact hin z.1 (ends_rev.mp (mem_ends.mpr ⟨z, hz, rfl⟩))
  | .cap n a, i, hi => by
    rw [table]
    rw [at_tableOf _ hi, allW, table_all t a i hi]
    exact (ddS_map (fun (z : Nat × Caps) => (z.1, (n, i, z.1) :: z.2)) (fun _ => rfl) (allW t a i) []).symm
end Ways
end

section
open PatUtf PatWords PatSpec
namespace Answers
/-! What each call answers, as a list of whole numbers, by the bytes. Pure. -/
/-- of a pattern and a text, both right -/
def both (p t : Bytes) (f : Pat → List (Nat × Name) → Text → List Int) : List Int := if 128 < p.length ∨ 128 < t.length then [-2] else match PatWords.read p, scalars 0 t with
  | .ok (a, ns), .ok x => f a ns x
  | _, _ => [-6]
def wholeL (p t : Bytes) : List Int := both p t fun a ns x => match PatWords.whole a x with
  | some c => 1 :: capsOf x ns c
  | none => [0]
def findL (k : Int) (p t : Bytes) : List Int := both p t fun a ns x => match placeAt x k with
  | none => [-1]
  | some i => match PatWords.find a x i with
    | some m => 1 :: (spanOf x (m.1, m.2.1) ++ capsOf x ns m.2.2)
    | none => [0]
def allL (p t : Bytes) : List Int := both p t fun a _ x => (((PatWords.all a x).length : Nat) : Int) :: (PatWords.all a x).flatMap fun m => spanOf x (m.1, m.2.1)
def splitL (p t : Bytes) : List Int := both p t fun a _ x => ((((PatWords.all a x).length + 1 : Nat)) : Int) :: parts x 0 (PatWords.all a x)
def putL (p t r : Bytes) : List Int := if 128 < r.length then [-2] else both p t fun a ns x => match piecesOf (ns.map (·.2)) (r.length + 1) 0 r with
  | .error k => [-5, (k : Nat)]
  | .ok l => match replaced x l 8192 0 (PatWords.all a x) with
    | some b => 0 :: b.map fun c => ((c.toNat : Nat) : Int)
    | none => [-9]
theorem told_both (p t : Bytes) (f : Pat → List (Nat × Name) → Text → Answer) : Neutral.told (ofBoth p t f) = both p t fun a ns x => Neutral.told (f a ns x) := by
  unfold ofBoth both
  by_cases c : 128 < p.length ∨ 128 < t.length
  · rw [if_pos c, if_pos (show PATTERN < p.length ∨ TEXTS < t.length from c)]
    rfl
  · rw [if_neg c, if_neg (show ¬ (PATTERN < p.length ∨ TEXTS < t.length) from c)]
    cases PatWords.read p with
    | error e => rfl
    | ok y =>
      cases scalars 0 t with
      | error e => rfl
      | ok x => rfl
theorem both_congr {p t : Bytes} {f g : Pat → List (Nat × Name) → Text → List Int} (h : ∀ a ns x, f a ns x = g a ns x) : both p t f = both p t g := by
  have : f = g := by
    funext a ns x
    exact h a ns x
  rw [this]
theorem told_nums (z : Int) (l : List Int) : Neutral.told (nums z l) = z :: l := by
  show z :: (l ++ []) = _
  rw [List.append_nil]
theorem whole_is (p t : List Int) : PyWrpatt.whole_ p t = wholeL (Neutral.text p) (Neutral.text t) := by
  show Neutral.told (ofBoth _ _ _) = _
  rw [told_both]
  refine both_congr fun a ns x => ?_
  cases PatWords.whole a x with
  | none => rfl
  | some c => exact told_nums _ _
theorem find_is (k : Int) (p t : List Int) : PyWrpatt.find k p t = findL k (Neutral.text p) (Neutral.text t) := by
  show Neutral.told (ofBoth _ _ _) = _
  rw [told_both]
  refine both_congr fun a ns x => ?_
  cases placeAt x k with
  | none => rfl
  | some i =>
    dsimp only
    cases PatWords.find a x i with
    | none => rfl
    | some m => exact told_nums _ _
theorem all_is (p t : List Int) : PyWrpatt.all_of p t = allL (Neutral.text p) (Neutral.text t) := by
  show Neutral.told (ofBoth _ _ _) = _
  rw [told_both]
  exact both_congr fun a ns x => told_nums _ _
theorem split_is (p t : List Int) : PyWrpatt.split p t = splitL (Neutral.text p) (Neutral.text t) := by
  show Neutral.told (ofBoth _ _ _) = _
  rw [told_both]
  exact both_congr fun a ns x => told_nums _ _
theorem put_is (p t r : List Int) : PyWrpatt.put p t r = putL (Neutral.text p) (Neutral.text t) (Neutral.text r) := by
  show Neutral.told (answer (.put (Neutral.text p) (Neutral.text t) (Neutral.text r))) = _
  unfold answer putL
  dsimp only
  by_cases c : 128 < (Neutral.text r).length
  · rw [if_pos c, if_pos (show REPLACE < (Neutral.text r).length from c)]
    rfl
  · rw [if_neg c, if_neg (show ¬ REPLACE < (Neutral.text r).length from c), told_both]
    refine both_congr fun a ns x => ?_
    cases piecesOf (ns.map fun (n : Nat × Name) => n.2) ((Neutral.text r).length + 1) 0 (Neutral.text r) with
    | error k => exact told_nums _ _
    | ok l =>
      dsimp only
      show Neutral.told (match replaced x l 8192 0 (PatWords.all a x) with
        | some b => gives b
        | none => num (-9)) = _
      cases replaced x l 8192 0 (PatWords.all a x) with
      | none => rfl
      | some b =>
        show (0 : Int) :: ([] ++ b.map fun (c : UInt8) => ((c.toNat : Nat) : Int)) = _
        rw [List.nil_append]
/-! ## The first way to an end, the match, by all ways -/
theorem find_ddS (q : Nat) : ∀ (l : Ends) (s : List Nat), q ∉ s → (Ways.ddS s l).find? (fun z => z.1 == q) = l.find? fun z => z.1 == q
  | [], _, _ => rfl
  | z :: l, s, h => by
    by_cases c : z.1 ∈ s
    · have e : Ways.ddS s (z :: l) = Ways.ddS s l := by rw [Ways.ddS, if_pos c]
      have hz : ¬ (z.1 == q) = true := fun x => h ((beq_iff_eq.mp x) ▸ c)
      rw [e, List.find?_cons_of_neg (by exact hz)]
      exact find_ddS q l s h
    · have e : Ways.ddS s (z :: l) = z :: Ways.ddS (z.1 :: s) l := by rw [Ways.ddS, if_neg c]
      rw [e]
      by_cases hz : (z.1 == q) = true
      · rw [List.find?_cons_of_pos (by exact hz), List.find?_cons_of_pos (by exact hz)]
      · rw [List.find?_cons_of_neg (by exact hz), List.find?_cons_of_neg (by exact hz)]
        refine find_ddS q l _ fun m => ?_
        rcases List.mem_cons.mp m with m | m
        · exact hz (beq_iff_eq.mpr m.symm)
        · exact h m
/-- **whole**: the first of all ways from 0 that ends at the end -/
theorem whole_all (p : Pat) (t : Text) : PatWords.whole p t = ((Ways.allW t p 0).find? fun z => z.1 == t.length).map fun z => z.2 := by
  unfold PatWords.whole ways
  rw [Ways.table_all t p 0 (Nat.zero_le _), find_ddS _ _ _ (by simp)]
/-- the greatest end, the first way to it -/
def best (l : Ends) : Option (Nat × Caps) := match l with
  | [] => none
  | w :: l => let j := l.foldl (fun (a : Nat) (z : Nat × Caps) => max a z.1) w.1
    (w :: l).find? fun (z : Nat × Caps) => z.1 == j
theorem matchIn_best (tb : Table) (i : Nat) : matchIn tb i = best (tb.at_ i) := rfl
theorem foldl_max : ∀ (l : Ends) (a : Nat), a ≤ l.foldl (fun (a : Nat) (z : Nat × Caps) => max a z.1) a ∧ (∀ z ∈ l, z.1 ≤ l.foldl (fun (a : Nat) (z : Nat × Caps) => max a z.1) a) ∧
    (l.foldl (fun (a : Nat) (z : Nat × Caps) => max a z.1) a = a ∨ ∃ z ∈ l, z.1 = l.foldl (fun (a : Nat) (z : Nat × Caps) => max a z.1) a)
  | [], a => ⟨Nat.le_refl _, (fun _ h => absurd h List.not_mem_nil), Or.inl rfl⟩
  | y :: l, a => by
    obtain ⟨h1, h2, h3⟩ := foldl_max l (max a y.1)
    rw [List.foldl_cons]
    refine ⟨Nat.le_trans (Nat.le_max_left _ _) h1, fun z hz => ?_, ?_⟩
    · rcases List.mem_cons.mp hz with h | h
      · rw [h]
        exact Nat.le_trans (Nat.le_max_right _ _) h1
      · exact h2 z h
    · rcases h3 with h | ⟨z, hz, h⟩
      · rcases Nat.le_total a y.1 with c | c
        · exact .inr ⟨y, List.mem_cons_self .., by rw [h]; omega⟩
        · exact .inl (by rw [h]; omega)
      · exact .inr ⟨z, List.mem_cons_of_mem _ hz, h⟩
/-- what is told of a match: its end is one, none is greater, the way is the first one to it -/
theorem best_some {l : Ends} {j : Nat} {c : Caps} : best l = some (j, c) ↔ (∀ z ∈ l, z.1 ≤ j) ∧ l.find? (fun z => z.1 == j) = some (j, c) := by
  cases l with
  | nil => simp [best]
  | cons w l =>
    obtain ⟨h1, h2, h3⟩ := foldl_max l w.1
    unfold best
    dsimp only
    constructor
    · intro h
      have hj0 := List.find?_some h
      have hj : j = l.foldl (fun (a : Nat) (z : Nat × Caps) => max a z.1) w.1 := beq_iff_eq.mp hj0
      rw [← hj] at h h1 h2
      exact ⟨fun z hz => (List.mem_cons.mp hz).elim (fun e => e ▸ h1) (h2 z), h⟩
    · rintro ⟨ha, hb⟩
      have hm : (j, c) ∈ w :: l := List.mem_of_find?_eq_some hb
      have hj : l.foldl (fun (a : Nat) (z : Nat × Caps) => max a z.1) w.1 = j := by
        refine Nat.le_antisymm ?_ ?_
        · rcases h3 with h | ⟨z, hz, h⟩
          · rw [h]
            exact ha w (List.mem_cons_self ..)
          · rw [← h]
            exact ha z (List.mem_cons_of_mem _ hz)
        · rcases List.mem_cons.mp hm with e | e
          · have e1 : j = w.1 := congrArg (·.1) e
            rw [e1]
            exact h1
          · exact h2 _ e
      rw [hj]
      exact hb
theorem best_none {l : Ends} : best l = none ↔ l = [] := by
  cases l with
  | nil => simp [best]
  | cons w l =>
    simp only [reduceCtorEq, iff_false]
    obtain ⟨h1, h2, h3⟩ := foldl_max l w.1
    unfold best
    dsimp only
    rw [List.find?_eq_none]
    intro h
    rcases h3 with e | ⟨z, hz, e⟩
    · exact h w (List.mem_cons_self ..) (beq_iff_eq.mpr e.symm)
    · exact h z (List.mem_cons_of_mem _ hz) (beq_iff_eq.mpr e)
theorem best_same {x y : Ends} (h : Ways.Same x y) : best x = best y := by
  have fnd : ∀ q, x.find? (fun z => z.1 == q) = y.find? fun z => z.1 == q := fun q => by
    rw [← find_ddS q x [] (by simp), ← find_ddS q y [] (by simp), h []]
  cases ex : best x with
  | none =>
    rw [best_none] at ex
    subst ex
    symm
    rw [best_none]
    cases y with
    | nil => rfl
    | cons w l =>
      have := (h.ends w.1).mpr (List.mem_cons_self ..)
      cases this
  | some z =>
    obtain ⟨j, c⟩ := z
    symm
    rw [best_some] at ex ⊢
    refine ⟨fun z hz => ?_, by rw [← fnd]; exact ex.2⟩
    obtain ⟨w, hw, e⟩ := Ways.mem_ends.mp ((h.ends z.1).mpr (Ways.mem_ends.mpr ⟨z, hz, rfl⟩))
    rw [← e]
    exact ex.1 w hw
/-- **A match from a place** by all ways -/
theorem match_all (p : Pat) (t : Text) {i : Nat} (hi : i ≤ t.length) : matchIn (table t p) i = best (Ways.allW t p i) := by
  rw [matchIn_best, Ways.table_all t p i hi]
  exact best_same (Ways.same_dd _)
end Answers
end

section
open PatUtf PatWords
namespace Ways
/-! # Ways that are alike: to each set of ends the same first one, with the same captures -/
theorem get_append (c d : Caps) (n : Name) : Caps.get (c ++ d) n = (Caps.get c n).or (Caps.get d n) := by
  unfold Caps.get
  rw [List.find?_append]
  cases c.find? (fun (x : Name × Nat × Nat) => x.1 == n) with
  | none => simp
  | some x => simp
theorem get_cons (m n : Name) (x : Nat × Nat) (c : Caps) : Caps.get ((m, x) :: c) n = if m = n then some x else Caps.get c n := by
  unfold Caps.get
  by_cases h : m = n
  · rw [if_pos h, List.find?_cons_of_pos (by simpa using h)]
    rfl
  · rw [if_neg h, List.find?_cons_of_neg (by simpa using h)]
/-- the first way to one of the ends -/
def fst (T : Nat → Bool) (l : Ends) : Option (Nat × Caps) := l.find? fun z => T z.1
def nrm (z : Nat × Caps) : Nat × (Name → Option (Nat × Nat)) := (z.1, fun n => Caps.get z.2 n)
def Eqv (x y : Ends) : Prop := ∀ T, (fst T x).map nrm = (fst T y).map nrm
theorem Eqv.refl (x : Ends) : Eqv x x := fun _ => rfl
theorem Eqv.of_eq {x y : Ends} (h : x = y) : Eqv x y := h ▸ Eqv.refl x
theorem Eqv.symm {x y : Ends} (h : Eqv x y) : Eqv y x := fun T => (h T).symm
theorem Eqv.trans {x y z : Ends} (h : Eqv x y) (k : Eqv y z) : Eqv x z := fun T => (h T).trans (k T)
theorem fst_append (T : Nat → Bool) (x y : Ends) : fst T (x ++ y) = (fst T x).or (fst T y) := List.find?_append ..
theorem Eqv.append {x x' y y' : Ends} (h : Eqv x x') (k : Eqv y y') : Eqv (x ++ y) (x' ++ y') := fun T => by
  rw [fst_append, fst_append]
  have h := h T
  have k := k T
  cases e : fst T x with
  | none =>
    rw [e] at h
    cases e' : fst T x' with
    | none => simpa using k
    | some z => rw [e'] at h; cases h
  | some z =>
    rw [e] at h
    cases e' : fst T x' with
    | none => rw [e'] at h; cases h
    | some z' => rw [e'] at h; simpa using h
theorem fst_some_of {T : Nat → Bool} {l : Ends} {z : Nat × Caps} (h : fst T l = some z) : z ∈ l ∧ T z.1 = true := ⟨List.mem_of_find?_eq_some h, List.find?_some (p := fun z : Nat × Caps => T z.1) h⟩
theorem fst_pos {T : Nat → Bool} {l : Ends} {z : Nat × Caps} (c : T z.1 = true) : fst T (z :: l) = some z := List.find?_cons_of_pos (p := fun z : Nat × Caps => T z.1) c
theorem fst_neg {T : Nat → Bool} {l : Ends} {z : Nat × Caps} (c : ¬ T z.1 = true) : fst T (z :: l) = fst T l := List.find?_cons_of_neg (p := fun z : Nat × Caps => T z.1) c
theorem nrm_1 {a b : Nat × Caps} (h : nrm a = nrm b) : a.1 = b.1 := congrArg (fun x => x.1) h
theorem nrm_2 {a b : Nat × Caps} (h : nrm a = nrm b) : (fun n => Caps.get a.2 n) = fun n => Caps.get b.2 n := congrArg (fun x => x.2) h
theorem nrm_eq {a b : Nat × Caps} (h1 : a.1 = b.1) (h2 : ∀ n, Caps.get a.2 n = Caps.get b.2 n) : nrm a = nrm b := by
  unfold nrm
  rw [h1]
  congr 1
  funext n
  exact h2 n
theorem fst_none_iff {T : Nat → Bool} {l : Ends} : fst T l = none ↔ ∀ z ∈ l, T z.1 = false := by
  unfold fst
  rw [List.find?_eq_none]
  simp
theorem fst_isSome {T : Nat → Bool} {l : Ends} : (fst T l).isSome = true ↔ ∃ z ∈ l, T z.1 = true := by
  unfold fst
  rw [List.find?_isSome]
theorem Eqv.ends {x y : Ends} (h : Eqv x y) (e : Nat) : e ∈ Ways.ends x ↔ e ∈ Ways.ends y := by
  have key : ∀ {x y : Ends}, Eqv x y → e ∈ Ways.ends x → e ∈ Ways.ends y := by
    intro x y h m
    obtain ⟨z, hz, rfl⟩ := mem_ends.mp m
    have h := h (fun k => k == z.1)
    have h1 : (fst (fun k => k == z.1) x).isSome = true := fst_isSome.mpr ⟨z, hz, beq_self_eq_true _⟩
    cases e1 : fst (fun k => k == z.1) x with
    | none => rw [e1] at h1; cases h1
    | some a =>
      rw [e1] at h
      cases e2 : fst (fun k => k == z.1) y with
      | none => rw [e2] at h; cases h
      | some b =>
        obtain ⟨hb, tb⟩ := fst_some_of e2
        exact mem_ends.mpr ⟨b, hb, beq_iff_eq.mp tb⟩
  exact ⟨key h, key h.symm⟩
theorem fst_map {T : Nat → Bool} (f : Nat × Caps → Nat × Caps) (hf : ∀ z, (f z).1 = z.1) : ∀ l : Ends, fst T (l.map f) = (fst T l).map f
  | [] => rfl
  | z :: l => by
    rw [List.map_cons]
    by_cases c : T z.1 = true
    · rw [fst_pos (by rw [hf]; exact c), fst_pos c]
      rfl
    · rw [fst_neg (by rw [hf]; exact c), fst_neg c]
      exact fst_map f hf l
/-- what comes first of ways, each followed by others -/
theorem fst_flat (T : Nat → Bool) (F : Nat → Ends) : ∀ l : Ends, fst T (l.flatMap (glue F)) = (fst (fun e => (fst T (F e)).isSome) l).bind fun z => (fst T (F z.1)).map fun y => (y.1, y.2 ++ z.2)
  | [] => rfl
  | z :: l => by
    rw [List.flatMap_cons, fst_append, fst_flat T F l]
    have e1 : fst T (glue F z) = (fst T (F z.1)).map fun y => (y.1, y.2 ++ z.2) := fst_map (fun y => (y.1, y.2 ++ z.2)) (fun _ => rfl) _
    rw [e1]
    by_cases c : (fst T (F z.1)).isSome = true
    · have e2 : fst (fun e => (fst T (F e)).isSome) (z :: l) = some z := fst_pos c
      rw [e2]
      cases e : fst T (F z.1) with
      | none => rw [e] at c; cases c
      | some y =>
        dsimp only [Option.bind]
        rw [e]
        rfl
    · have e2 : fst (fun e => (fst T (F e)).isSome) (z :: l) = fst (fun e => (fst T (F e)).isSome) l := fst_neg c
      rw [e2]
      cases e : fst T (F z.1) with
      | none => rfl
      | some y => rw [e] at c; exact absurd rfl c
theorem Eqv.glue {F F' : Nat → Ends} {z : Nat × Caps} (h : Eqv (F z.1) (F' z.1)) : Eqv (Ways.glue F z) (Ways.glue F' z) := fun T => by
  have e : ∀ G : Nat → Ends, fst T (Ways.glue G z) = (fst T (G z.1)).map fun y => (y.1, y.2 ++ z.2) := fun G => fst_map (fun y => (y.1, y.2 ++ z.2)) (fun _ => rfl) _
  rw [e, e]
  have h := h T
  cases e1 : fst T (F z.1) with
  | none =>
    rw [e1] at h
    cases e2 : fst T (F' z.1) with
    | none => rfl
    | some b => rw [e2] at h; cases h
  | some a =>
    rw [e1] at h
    cases e2 : fst T (F' z.1) with
    | none => rw [e2] at h; cases h
    | some b =>
      rw [e2] at h
      have h : nrm a = nrm b := Option.some.inj h
      show some (nrm (a.1, a.2 ++ z.2)) = some (nrm (b.1, b.2 ++ z.2))
      have h1 : a.1 = b.1 := nrm_1 h
      have h2 : (fun n => Caps.get a.2 n) = fun n => Caps.get b.2 n := nrm_2 h
      exact congrArg some (nrm_eq h1 fun n => by rw [get_append, get_append, congrFun h2 n])
theorem Eqv.flat_right {F F' : Nat → Ends} : ∀ l : Ends, (∀ z ∈ l, Eqv (F z.1) (F' z.1)) → Eqv (l.flatMap (Ways.glue F)) (l.flatMap (Ways.glue F'))
  | [], _ => Eqv.refl _
  | z :: l, h => by
    rw [List.flatMap_cons, List.flatMap_cons]
    exact (Eqv.glue (h z (List.mem_cons_self ..))).append (Eqv.flat_right l fun y m => h y (List.mem_cons_of_mem _ m))
theorem Eqv.flat_left {l l' : Ends} (F : Nat → Ends) (h : Eqv l l') : Eqv (l.flatMap (Ways.glue F)) (l'.flatMap (Ways.glue F)) := fun T => by
  rw [fst_flat, fst_flat]
  have h := h (fun e => (fst T (F e)).isSome)
  cases e1 : fst (fun e => (fst T (F e)).isSome) l with
  | none =>
    rw [e1] at h
    cases e2 : fst (fun e => (fst T (F e)).isSome) l' with
    | none => rfl
    | some b => rw [e2] at h; cases h
  | some a =>
    rw [e1] at h
    cases e2 : fst (fun e => (fst T (F e)).isSome) l' with
    | none => rw [e2] at h; cases h
    | some b =>
      rw [e2] at h
      have h : nrm a = nrm b := Option.some.inj h
      have h1 : a.1 = b.1 := nrm_1 h
      have h2 : (fun n => Caps.get a.2 n) = fun n => Caps.get b.2 n := nrm_2 h
      dsimp only [Option.bind]
      rw [h1]
      cases fst T (F b.1) with
      | none => rfl
      | some y =>
        show some (nrm (y.1, y.2 ++ a.2)) = some (nrm (y.1, y.2 ++ b.2))
        exact congrArg some (nrm_eq rfl fun n => by rw [get_append, get_append, congrFun h2 n])
theorem Eqv.flat {l l' : Ends} {F F' : Nat → Ends} (hl : Eqv l l') (h : ∀ z ∈ l', Eqv (F z.1) (F' z.1)) : Eqv (l.flatMap (Ways.glue F)) (l'.flatMap (Ways.glue F')) :=
  (Eqv.flat_left F hl).trans (Eqv.flat_right l' h)
theorem Eqv.filter (P : Nat → Bool) {x y : Ends} (h : Eqv x y) : Eqv (x.filter fun z => P z.1) (y.filter fun z => P z.1) := fun T => by
  have e : ∀ l : Ends, fst T (l.filter fun z => P z.1) = fst (fun k => P k && T k) l := fun l => by
    induction l with
    | nil => rfl
    | cons z l ih =>
      by_cases c : P z.1 = true
      · rw [List.filter_cons_of_pos (by exact c)]
        by_cases d : T z.1 = true
        · rw [fst_pos d, fst_pos (by rw [c, d]; rfl)]
        · rw [fst_neg d, fst_neg (by rw [c, Bool.true_and]; exact d), ih]
      · rw [List.filter_cons_of_neg (by exact c), fst_neg (by intro h; exact c (Bool.and_eq_true_iff.mp h).1), ih]
  rw [e, e]
  exact h _
theorem Eqv.cap (n : Name) (i : Nat) {x y : Ends} (h : Eqv x y) : Eqv (x.map fun z => (z.1, (n, i, z.1) :: z.2)) (y.map fun z => (z.1, (n, i, z.1) :: z.2)) := fun T => by
  rw [fst_map (fun z => (z.1, (n, i, z.1) :: z.2)) (fun _ => rfl), fst_map (fun z => (z.1, (n, i, z.1) :: z.2)) (fun _ => rfl)]
  have h := h T
  cases e1 : fst T x with
  | none =>
    rw [e1] at h
    cases e2 : fst T y with
    | none => rfl
    | some b => rw [e2] at h; cases h
  | some a =>
    rw [e1] at h
    cases e2 : fst T y with
    | none => rw [e2] at h; cases h
    | some b =>
      rw [e2] at h
      have h : nrm a = nrm b := Option.some.inj h
      have h1 : a.1 = b.1 := nrm_1 h
      have h2 : (fun n => Caps.get a.2 n) = fun n => Caps.get b.2 n := nrm_2 h
      show some (nrm (a.1, (n, i, a.1) :: a.2)) = some (nrm (b.1, (n, i, b.1) :: b.2))
      rw [h1]
      exact congrArg some (nrm_eq rfl fun m => by rw [get_cons, get_cons, congrFun h2 m])
theorem repW_eqv {w w' : Nat → Ends} {n m : Nat} {most : Option Nat} (hw' : Fwd w' n) (h : ∀ i, i ≤ n → Eqv (w i) (w' i)) : ∀ f k i, i ≤ n → Eqv (repW w m most f k i) (repW w' m most f k i)
  | 0, _, _, _ => Eqv.refl _
  | f + 1, k, i, hi => by
    unfold repW
    refine Eqv.append ?_ (Eqv.refl _)
    by_cases c : more most k = true
    · rw [if_pos c, if_pos c]
      refine Eqv.flat ((h i hi).filter fun e => !(decide (e = i) && decide (m ≤ k))) fun z hz => ?_
      exact repW_eqv hw' h f (k + 1) z.1 (hw' i hi z (List.mem_filter.mp hz).1).2
    · rw [if_neg c, if_neg c]
      exact Eqv.refl _
/-! ## Bodies that stay where they are -/
theorem rep_stays {w : Nat → Ends} {m : Nat} {most : Option Nat} {i : Nat} (h : ∀ z ∈ w i, z.1 = i) : ∀ f k, ∀ z ∈ repW w m most f k i, z.1 = i
  | 0, _, z, hz => by cases hz
  | f + 1, k, z, hz => by
    unfold repW at hz
    rcases List.mem_append.mp hz with hz | hz
    · split at hz
      · obtain ⟨y, hy, hz⟩ := List.mem_flatMap.mp hz
        have ey := h y (List.mem_filter.mp hy).1
        unfold glue at hz
        obtain ⟨x, hx, rfl⟩ := List.mem_map.mp hz
        rw [ey] at hx
        exact rep_stays h f (k + 1) x hx
      · cases hz
    · split at hz
      · rw [List.mem_singleton.mp hz]
      · cases hz
theorem zero_stays (t : Text) : ∀ (p : Pat), p.size = 0 → ∀ i, ∀ z ∈ allW t p i, z.1 = i
  | .nothing, _, i, z, hz => by
    rw [allW] at hz
    rw [List.mem_singleton.mp hz]
  | .any, h, _, _, _ => by cases h
  | .cls _ _, h, _, _, _ => by cases h
  | .first, h, _, _, _ => by cases h
  | .last, h, _, _, _ => by cases h
  | .edge, h, _, _, _ => by cases h
  | .seq a b, h, i, z, hz => by
    have h : a.size + b.size = 0 := h
    rw [allW] at hz
    obtain ⟨y, hy, hz⟩ := List.mem_flatMap.mp hz
    have ey := zero_stays t a (by omega) i y hy
    unfold glue at hz
    obtain ⟨x, hx, rfl⟩ := List.mem_map.mp hz
    rw [ey] at hx
    exact zero_stays t b (by omega) i x hx
  | .alt a b, h, i, z, hz => by
    have h : a.size + b.size = 0 := h
    rw [allW] at hz
    rcases List.mem_append.mp hz with hz | hz
    · exact zero_stays t a (by omega) i z hz
    · exact zero_stays t b (by omega) i z hz
  | .cap n a, h, i, z, hz => by
    have h : a.size = 0 := h
    rw [allW] at hz
    obtain ⟨x, hx, rfl⟩ := List.mem_map.mp hz
    exact zero_stays t a h i x hx
  | .rep a m n, h, i, z, hz => by
    rw [allW] at hz
    cases n with
    | none =>
      have h : max m 1 * a.size = 0 := h
      have ha : a.size = 0 := (Nat.mul_eq_zero.mp h).resolve_left (by omega)
      exact rep_stays (zero_stays t a ha i) _ _ z hz
    | some n =>
      have h : n * a.size = 0 := h
      rcases Nat.mul_eq_zero.mp h with hn | ha
      · subst hn
        unfold repW at hz
        rcases List.mem_append.mp hz with hz | hz
        · rw [if_neg (by simp [more])] at hz
          cases hz
        · split at hz
          · rw [List.mem_singleton.mp hz]
          · cases hz
      · exact rep_stays (zero_stays t a ha i) _ _ z hz
theorem flat_nil (l : Ends) : l.flatMap (glue fun j => [(j, [])]) = l := by
  induction l with
  | nil => rfl
  | cons z l ih =>
    rw [List.flatMap_cons, ih]
    show [(z.1, [] ++ z.2)] ++ l = z :: l
    rw [List.nil_append]
    rfl
/-- such a body so many times is such a body once -/
theorem rep_zero {w : Nat → Ends} {m : Nat} {most : Option Nat} {i : Nat} (h : ∀ z ∈ w i, z.1 = i) (hmost : ∀ n, most = some n → m ≤ n) {f f' : Nat} (hf : m + 2 ≤ f) (hf' : 3 ≤ f') :
    Eqv (repW w (min m 1) (some 1) f' 0 i) (repW w m most f 0 i) := by
  have stop : ∀ (f k : Nat), 1 ≤ f → m ≤ k → repW w m most f k i = [(i, [])] := by
    intro f k h1 hk
    obtain ⟨f, rfl⟩ : ∃ g, f = g + 1 := ⟨f - 1, by omega⟩
    unfold repW
    have e : (w i).filter (fun z => !(decide (z.1 = i) && decide (m ≤ k))) = [] := by
      rw [List.filter_eq_nil_iff]
      intro z hz
      rw [decide_eq_true (h z hz), decide_eq_true hk]
      decide
    rw [e, if_pos hk]
    split <;> rfl
  by_cases hm : m = 0
  · subst hm
    rw [stop f 0 (by omega) (Nat.le_refl _)]
    obtain ⟨f', rfl⟩ : ∃ g, f' = g + 1 := ⟨f' - 1, by omega⟩
    unfold repW
    have e : (w i).filter (fun z => !(decide (z.1 = i) && decide (min 0 1 ≤ 0))) = [] := by
      rw [List.filter_eq_nil_iff]
      intro z hz
      rw [decide_eq_true (h z hz)]
      decide
    rw [e]
    exact Eqv.refl _
  · have e0 : min m 1 = 1 := by omega
    rw [e0]
    have once : repW w 1 (some 1) f' 0 i = w i := by
      obtain ⟨f', rfl⟩ : ∃ g, f' = g + 2 := ⟨f' - 2, by omega⟩
      have e1 : repW w 1 (some 1) (f' + 2) 0 i = (w i).flatMap (glue fun j => repW w 1 (some 1) (f' + 1) 1 j) := by
        rw [repW, if_pos (by rfl), if_neg (by decide), List.append_nil]
        congr 1
        rw [List.filter_eq_self]
        intro z _
        simp
      rw [e1]
      have e2 : (fun j => repW w 1 (some 1) (f' + 1) 1 j) = fun j => [(j, [])] := by
        funext j
        rw [repW, if_neg (by decide), if_pos (by decide)]
        rfl
      rw [e2, flat_nil]
    rw [once]
    -- from k times on, one less than m at least: the first way is the body's first
    have key : ∀ d k f, k + d + 1 = m → d + 2 ≤ f → Eqv (w i) (repW w m most f k i) := by
      intro d
      induction d with
      | zero =>
        intro k f hk hf
        obtain ⟨f, rfl⟩ : ∃ g, f = g + 1 := ⟨f - 1, by omega⟩
        unfold repW
        have hmore : more most k = true := by
          unfold more
          cases hh : most with
          | none => rfl
          | some n => exact decide_eq_true (by have := hmost n hh; omega)
        rw [if_pos hmore, if_neg (by omega), List.append_nil]
        have e : (w i).filter (fun z => !(decide (z.1 = i) && decide (m ≤ k))) = w i := by
          rw [List.filter_eq_self]
          intro z _
          rw [decide_eq_false (by omega : ¬ m ≤ k), Bool.and_false]
          rfl
        rw [e]
        have e2 : Eqv ((w i).flatMap (glue fun j => [(j, [])])) ((w i).flatMap (glue fun j => repW w m most f (k + 1) j)) := Eqv.flat_right _ fun z hz => by
          rw [h z hz, stop f (k + 1) (by omega) (by omega)]
          exact Eqv.refl _
        rw [flat_nil] at e2
        exact e2
      | succ d ih =>
        intro k f hk hf
        obtain ⟨f, rfl⟩ : ∃ g, f = g + 1 := ⟨f - 1, by omega⟩
        unfold repW
        have hmore : more most k = true := by
          unfold more
          cases hh : most with
          | none => rfl
          | some n => exact decide_eq_true (by have := hmost n hh; omega)
        rw [if_pos hmore, if_neg (by omega), List.append_nil]
        have e : (w i).filter (fun z => !(decide (z.1 = i) && decide (m ≤ k))) = w i := by
          rw [List.filter_eq_self]
          intro z _
          rw [decide_eq_false (by omega : ¬ m ≤ k), Bool.and_false]
          rfl
        rw [e]
        have ih := ih (k + 1) f (by omega) (by omega)
        have e2 : Eqv ((w i).flatMap (glue w)) ((w i).flatMap (glue fun j => repW w m most f (k + 1) j)) := Eqv.flat_right _ fun z hz => by
          rw [h z hz]
          exact ih
        refine Eqv.trans ?_ e2
        intro T
        rw [fst_flat]
        cases e3 : fst T (w i) with
        | none =>
          have : fst (fun e => (fst T (w e)).isSome) (w i) = none := fst_none_iff.mpr fun z hz => by rw [h z hz, e3]; rfl
          rw [this]
          rfl
        | some z =>
          obtain ⟨hz, tz⟩ := fst_some_of e3
          have hT : T i = true := by rw [← h z hz]; exact tz
          have e4 : ∀ l : Ends, (∀ y ∈ l, y.1 = i) → fst (fun e => (fst T (w e)).isSome) l = fst T l := by
            intro l
            induction l with
            | nil => intro _; rfl
            | cons y l ih =>
              intro hl
              have ey := hl y (List.mem_cons_self ..)
              rw [fst_pos (by rw [ey, e3]; rfl), fst_pos (by rw [ey]; exact hT)]
          rw [e4 _ h, e3]
          dsimp only [Option.bind]
          rw [h z hz, e3]
          refine congrArg some (nrm_eq rfl fun n => ?_)
          dsimp only
          rw [get_append]
          cases Caps.get z.2 n with
          | none => rfl
          | some x => rfl
    exact key (m - 1) 0 f (by omega) (by omega)
/-! ## Ways of a part -/
abbrev WF := Text → Nat → Ends
/-- a text's values -/
def Val (t : Text) : Prop := ∀ x ∈ t, x ≤ 1114111
def FwdW (w : WF) : Prop := ∀ t, Fwd (w t) t.length
def FitsW (w : WF) (p : Pat) : Prop := ∀ t, Val t → ∀ i, i ≤ t.length → Eqv (w t i) (allW t p i)
def oneWF (l : List (Nat × Nat)) (neg : Bool) : WF := fun t i => match t[i]? with
  | some x => if (inSet l x != neg) = true then [(i + 1, [])] else []
  | none => []
def seqsWF : List WF → WF
  | [] => fun _ i => [(i, [])]
  | w :: ws => fun t i => (w t i).flatMap (glue (seqsWF ws t))
def altsWF (ws : List WF) : WF := fun t i => ws.flatMap fun w => w t i
def repWF (w : WF) (m : Nat) (n : Option Nat) : WF := fun t i => repW (w t) m n (m + t.length + 2) 0 i
def capWF (n : Name) (w : WF) : WF := fun t i => (w t i).map fun z => (z.1, (n, i, z.1) :: z.2)
theorem fwd_one (l : List (Nat × Nat)) (neg : Bool) : FwdW (oneWF l neg) := fun t i hi z hz => by
  unfold oneWF at hz
  split at hz
  · rename_i x hx
    split at hz
    · rw [List.mem_singleton.mp hz]
      exact ⟨Nat.le_succ _, (List.getElem?_eq_some_iff.mp hx).1⟩
    · cases hz
  · cases hz
theorem fwd_seqs : ∀ {ws : List WF}, (∀ w ∈ ws, FwdW w) → FwdW (seqsWF ws)
  | [], _, t, i, hi, z, hz => by
    rw [List.mem_singleton.mp hz]
    exact ⟨Nat.le_refl _, hi⟩
  | w :: ws, h, t, i, hi, z, hz =>
    flat_le (h w (List.mem_cons_self ..) t i hi) (fwd_seqs (fun v m => h v (List.mem_cons_of_mem _ m)) t) z hz
theorem fwd_alts {ws : List WF} (h : ∀ w ∈ ws, FwdW w) : FwdW (altsWF ws) := fun t i hi z hz => by
  obtain ⟨w, hw, hz⟩ := List.mem_flatMap.mp hz
  exact h w hw t i hi z hz
theorem fwd_rep {w : WF} {m : Nat} {n : Option Nat} (h : FwdW w) : FwdW (repWF w m n) := fun t i hi z hz => repW_le (h t) hi z hz
theorem fwd_cap {n : Name} {w : WF} (h : FwdW w) : FwdW (capWF n w) := fun t i hi z hz => by
  obtain ⟨y, hy, rfl⟩ := List.mem_map.mp hz
  exact h t i hi y hy
theorem fits_cls {l l' : List (Nat × Nat)} {neg : Bool} (h : ∀ x, inSet l x = inSet l' x) : FitsW (oneWF l neg) (.cls neg l') := fun t _ i _ => by
  refine Eqv.of_eq ?_
  unfold oneWF
  rw [allW]
  cases t[i]? with
  | none => rfl
  | some x => dsimp only; rw [h x]
theorem fits_any : FitsW (oneWF [(0, 1114111)] false) .any := fun t ht i _ => by
  refine Eqv.of_eq ?_
  unfold oneWF
  rw [allW]
  cases e : t[i]? with
  | none =>
    rw [if_neg (fun h => by rw [List.getElem?_eq_getElem h] at e; cases e)]
  | some x =>
    have hx := ht x (List.mem_of_getElem? e)
    have h1 : (inSet [(0, 1114111)] x != false) = true := by
      unfold inSet
      simp only [List.any_cons, List.any_nil, Bool.or_false, Nat.zero_le, decide_true, Bool.true_and]
      rw [decide_eq_true hx]
      rfl
    dsimp only
    rw [if_pos h1, if_pos (List.getElem?_eq_some_iff.mp e).1]
/-- part for part -/
def FitAll : List WF → List Pat → Prop
  | [], [] => True
  | w :: ws, p :: ps => FitsW w p ∧ FitAll ws ps
  | _, _ => False
theorem fits_seqs : ∀ {ws : List WF} {ps : List Pat}, FitAll ws ps → FitsW (seqsWF ws) (Mach.seqs ps)
  | [], [], _, t, _, i, _ => Eqv.refl _
  | [], _ :: _, h, _, _, _, _ => h.elim
  | _ :: _, [], h, _, _, _, _ => h.elim
  | w :: ws, p :: ps, ⟨h1, h2⟩, t, ht, i, hi => by
    show Eqv _ (allW t (.seq p (Mach.seqs ps)) i)
    rw [allW]
    refine Eqv.flat (h1 t ht i hi) fun z hz => ?_
    exact fits_seqs h2 t ht z.1 (allW_fwd t p i hi z hz).2
theorem fits_seq1 {w : WF} {p : Pat} (h : FitsW w p) : FitsW w (Mach.seqs [p]) := fun t ht i hi => by
  have e : allW t (Mach.seqs [p]) i = allW t p i := by
    show allW t (.seq p .nothing) i = _
    rw [allW]
    have : allW t .nothing = fun j => [(j, [])] := by funext j; rw [allW]
    rw [this, flat_nil]
  rw [e]
  exact h t ht i hi
theorem fits_alts : ∀ {ws : List WF} {ps : List Pat}, FitAll ws ps → ws ≠ [] → FitsW (altsWF ws) (Mach.alts ps)
  | [], _, _, hn, _, _, _, _ => absurd rfl hn
  | _ :: _, [], h, _, _, _, _, _ => h.elim
  | [w], [p], ⟨h1, _⟩, _, t, ht, i, hi => by
    have e : altsWF [w] t i = w t i := by unfold altsWF; simp
    rw [e]
    exact h1 t ht i hi
  | [w], p :: q :: ps, ⟨_, h2⟩, _, _, _, _, _ => h2.elim
  | w :: v :: ws, [p], ⟨_, h2⟩, _, _, _, _, _ => h2.elim
  | w :: v :: ws, p :: q :: ps, ⟨h1, h2⟩, _, t, ht, i, hi => by
    show Eqv _ (allW t (.alt p (Mach.alts (q :: ps))) i)
    rw [allW]
    exact (h1 t ht i hi).append (fits_alts h2 (List.cons_ne_nil _ _) t ht i hi)
theorem fits_rep {w : WF} {p : Pat} {m : Nat} {n : Option Nat} (h : FitsW w p) : FitsW (repWF w m n) (.rep p m n) := fun t ht i hi => by
  rw [allW]
  exact repW_eqv (allW_fwd t p) (fun j hj => h t ht j hj) _ 0 i hi
theorem fits_rep0 {w : WF} {p : Pat} {m : Nat} {n : Option Nat} (h : FitsW w p) (h0 : p.size = 0) (hn : ∀ k, n = some k → m ≤ k) : FitsW (repWF w (min m 1) (some 1)) (.rep p m n) := fun t ht i hi => by
  rw [allW]
  unfold repWF
  refine (repW_eqv (allW_fwd t p) (fun j hj => h t ht j hj) _ 0 i hi).trans ?_
  -- as many steps as there can be: more of them change nothing
  have hs := zero_stays t p h0 i
  by_cases hm : min m 1 + t.length + 2 < 3
  · have e : m = 0 := by omega
    subst e
    have e2 : ∀ (mo : Option Nat) (f : Nat), repW (allW t p) 0 mo (f + 1) 0 i = [(i, [])] := fun mo f => by
      unfold repW
      have e : (allW t p i).filter (fun z => !(decide (z.1 = i) && decide (0 ≤ 0))) = [] := by
        rw [List.filter_eq_nil_iff]
        intro z hz
        rw [decide_eq_true (hs z hz)]
        decide
      rw [e]
      split <;> rfl
    rw [show min 0 1 = 0 from rfl, e2, e2]
    exact Eqv.refl _
  · exact rep_zero hs hn (by omega) (by omega)
theorem fits_cap {w : WF} {p : Pat} {n : Name} (h : FitsW w p) : FitsW (capWF n w) (.cap n p) := fun t ht i hi => by
  rw [allW]
  exact (h t ht i hi).cap n i
end Ways
end

section
namespace Pat
open PySem PySem.Spec PyProof.Rows L2
open PySem.FaultX (FaultTxt)
/-! ### small things -/
theorem if_true_of {c : Bool} {A B : Prop} (hc : c = true) (h : A) : if c = true then A else B := by
  rw [if_pos hc]
  exact h
theorem if_false_of {c : Bool} {A B : Prop} (hc : c = false) (h : B) : if c = true then A else B := by
  rw [hc, if_neg Bool.false_ne_true]
  exact h
theorem lk_here {k : Str} {v : V} {r : List (Str × V)} : List.lookup k ((k, v) :: r) = some v := by
  have e : (k == k) = true := beq_self_eq_true k
  simp only [List.lookup, e]
theorem lk_past {k g : Str} {v : V} {r : List (Str × V)} (h : (k == g) = false) : List.lookup k ((g, v) :: r) = List.lookup k r := by
  simp only [List.lookup, h]
theorem put_here {f : Str} {v x : V} {r : List (Str × V)} : putF f v ((f, x) :: r) = (f, v) :: r := if_pos rfl
theorem put_past {f g : Str} {v x : V} {r : List (Str × V)} (h : ¬ g = f) : putF f v ((g, x) :: r) = (g, x) :: putF f v r := if_neg h
/-- all but what stands at a is as it was -/
def Kept (H H' : Hp) (a : Addr) : Prop := ∀ b o, H b = some o → b ≠ a → H' b = some o
theorem Kept.refl (H : Hp) (a : Addr) : Kept H H a := fun _ _ h _ => h
theorem Kept.of_same {H H' : Hp} {a : Addr} (s : Same H H') : Kept H H' a := fun b o h _ => s b o h
theorem Kept.trans {H H1 H2 : Hp} {a : Addr} (x : Kept H H1 a) (y : Kept H1 H2 a) : Kept H H2 a := fun b o h n => y b o (x b o h n) n
theorem Kept.upd {H : Hp} {a : Addr} {o : HO} : Kept H (upd H a o) a := fun b u h n => by
  rw [upd_ne n]
  exact h
theorem Same.upd {H : Hp} {d : Addr} {o : HO} (h : H d = none) : Same H (upd H d o) := fun b u e => by
  rw [upd_ne (ne_of_none e h)]
  exact e
/-! ### the reader -/
/-- its fields -/
def rF (ag : Addr) (p : Nat) (an ab : Addr) : List (Str × V) := [("given", .ref ag), ("place", .int p), ("names", .ref an), ("brackets", .ref ab)]
theorem rF_given {ag p an ab} : (rF ag p an ab).lookup ("given" : Str) = some (.ref ag) := lk_here
theorem rF_place {ag p an ab} : (rF ag p an ab).lookup ("place" : Str) = some (.int (p : Nat)) := (lk_past (by decide +kernel)).trans lk_here
theorem rF_names {ag p an ab} : (rF ag p an ab).lookup ("names" : Str) = some (.ref an) := (lk_past (by decide +kernel)).trans ((lk_past (by decide +kernel)).trans lk_here)
theorem rF_brackets {ag p an ab} : (rF ag p an ab).lookup ("brackets" : Str) = some (.ref ab) := (lk_past (by decide +kernel)).trans ((lk_past (by decide +kernel)).trans ((lk_past (by decide +kernel)).trans lk_here))
theorem rF_no {m : Str} {ag p an ab} (h : (m == ("given" : Str)) = false ∧ (m == ("place" : Str)) = false ∧ (m == ("names" : Str)) = false ∧ (m == ("brackets" : Str)) = false) : (rF ag p an ab).lookup m = none :=
  (lk_past h.1).trans ((lk_past h.2.1).trans ((lk_past h.2.2.1).trans ((lk_past h.2.2.2).trans rfl)))
theorem rF_put {ag an ab} {p q : Nat} : putF "place" (.int (q : Nat)) (rF ag p an ab) = rF ag q an ab := (put_past (by decide +kernel)).trans (congrArg _ put_here)
def RAt (C : Addr) (H : Hp) (a dx ag : Addr) (p : Nat) (an ab : Addr) : Prop := H a = some (.ins C dx (rF ag p an ab))
/-- the bytes as they are given -/
def gv (g : List UInt8) : List V := g.map fun c => V.int (c.toNat : Nat)
theorem gv_len (g : List UInt8) : (gv g).length = g.length := List.length_map _
theorem gv_at {g : List UInt8} {p : Nat} {c : UInt8} (h : g[p]? = some c) : atI (gv g) ((p : Nat) : Int) = some (V.int (c.toNat : Nat)) := atI_nat (by rw [gv, List.getElem?_map, h]; rfl)
theorem seq_kept {K : PySem.W.Frag} {H H' : Hp} {a ag dx C : Addr} {fs : List (Str × V)} {xs : List V} (h : SqL K H ag xs) (e : H a = some (.ins C dx fs)) (k : Kept H H' a) : SqL K H' ag xs := by
  rcases h with (h | ⟨o, h⟩) | h
  · exact .inl (.inl (k _ _ h (ne_of h e (by intro z; cases z))))
  · exact .inl (.inr ⟨o, k _ _ h (ne_of h e (by intro z; cases z))⟩)
  · exact .inr h
/-- a fault's way out -/
def Out (CF : Addr) (e : PatUtf.Fault) (E : XK) : Prop := ∀ (d : Addr) (H' : Hp), H' d = some (.xd (faultF (.int (e.kind : Nat)) (.int (e.place : Nat)))) → E (.ref CF) (some d) H'
/-- codes of a text's signs -/
def cds (z : Str) : List Nat := z.cps.toList
/-! ### what the top has written -/
structure Txt (K : PySem.W.Frag) (mg : Str → Option Value) (C CF fI : Addr) : Prop where
  ft : FaultTxt K mg CF fI
  cl : Cls K C
  nG : NoAttr K C "given"
  nP : NoAttr K C "place"
  nN : NoAttr K C "names"
  nB : NoAttr K C "brackets"
  len : mg "len" = none
  ord : mg "ord" = none
  k1 : ∃ t, mg "ENDS_TOO_SOON" = some (.int 1 t)
  k2 : ∃ t, mg "CANNOT_STAND" = some (.int 2 t)
theorem pe_gi {X : Cx} {x : Str} {i : Int} {pos : Pos} (h : ∃ t, X.mg x = some (.int i t)) (hg : Gl X x := by rfl) (hd : (x == ("__debug__" : Str)) = false := by decide) : PE X (.Name x pos) (tC (.int i)) := by
  obtain ⟨t, h⟩ := h
  exact pe_glob hg h ⟨t, rfl⟩ hd
/-! ### the text -/
def top (i : Nat) : Stmt := PySem.Challenge.pw_toldpatterns_s04_find.main.body.getD i (.Pass ⟨0, 0, 0, 0⟩)
abbrev sR (j : Nat) : Stmt := inClass (top i_Reader) j
def rLt : R2 := rI0 fun i j => .bl (decide (i < j))
end Pat
end

section
namespace Pat
open PySem PySem.Spec PyProof.Rows L2
section
variable {P : Program} {w : World} {K : PySem.W.Frag} {mg : Str → Option Value} {base : Heap} {C CF fI : Addr}
/-! ### need_byte -/
@[irreducible] def spNeed (K : PySem.W.Frag) (C CF : Addr) : Sp := fun vs H Q E => ∃ (a dx ag : Addr) (p : Nat) (an ab : Addr) (g : List UInt8), vs = [.ref a] ∧ RAt C H a dx ag p an ab ∧ SqL K H ag (gv g) ∧
  (p = g.length → Out CF ⟨1, p⟩ E) ∧ (p ≠ g.length → Q .non H)
theorem scNeed : FnScope ["self"] ["self"] (defScope (sR 1)) := ⟨rfl, rfl, rfl, by decide +kernel, rfl, by decide +kernel, by decide +kernel⟩
theorem ok_need {f : Addr} {fd : FuncData} (F : Fun K "need_byte" "Reader.need_byte" (sR 1) f fd) (T : Txt K mg C CF fI) : FnOk P w K mg base (L2N.CX P w) 2 f fd ["self"] (spNeed K C CF) := by
  refine F.okN scNeed (fun vs H Q E h => ?_) (fun cdv A outer s H vs Q E hr h => ⟨_, pss_one (ps_if (pt_cmpR op_eq (pe_fld (pv 0) rfl) (pe_callB call_len_seq (by rfl) T.len PySem.boot_len (pa_cons (pe_fld (pv 0) rfl) pa_nil)) (nomark _))
      (pss_one (ps_raiseFault rfl T.ft hr (L2N.takes_of rfl rfl rfl rfl) (by exact (pa_cons (pe_gi T.k1) (pa_cons (pe_fld (pv 0) rfl) pa_nil))))) pss_nil), ?_⟩)
  · unfold spNeed at h
    obtain ⟨_, _, _, _, _, _, _, rfl, _⟩ := h
    rfl
  · unfold spNeed at h
    obtain ⟨a, dx, ag, p, an, ab, g, rfl, r, sq, h1, h2⟩ := h
    refine ⟨_, rfl, a, C, dx, _, _, rfl, r, T.cl, T.nP, rF_place, _, rfl, a, C, dx, _, _, rfl, r, T.cl, T.nG, rF_given, ag, _, rfl, .inl sq, ?_⟩
    refine ⟨rfl, _, rfl, ?_⟩
    by_cases c : p = g.length
    · refine if_true_of (by rw [gv_len, c]; exact decide_eq_true rfl) ?_
      exact ⟨_, rfl, a, C, dx, _, _, rfl, r, T.cl, T.nP, rF_place, _, _, rfl, fun d hd => h1 c d _ upd_same⟩
    · refine if_false_of (decide_eq_false fun e => c ?_) (h2 c)
      rw [gv_len] at e
      injection e with e
      omega
/-! ### at -/
/-- whether the byte at p is one of these signs -/
def isAt (g : List UInt8) (p : Nat) (z : Str) : Bool := match g[p]? with
  | none => false
  | some c => (cds z).contains c.toNat
@[irreducible] def spAt (K : PySem.W.Frag) (C : Addr) : Sp := fun vs H Q E => ∃ (a dx ag : Addr) (p : Nat) (an ab : Addr) (g : List UInt8) (z : Str), vs = [.ref a, .str z] ∧ RAt C H a dx ag p an ab ∧ SqL K H ag (gv g) ∧
  p ≤ g.length ∧ (cds z).length ≤ 1000 ∧ (∀ H', Same H H' → Q (.bl (isAt g p z)) H')
theorem scAt : FnScope ["self", "signs", "sign"] ["self", "signs"] (defScope (sR 2)) := ⟨rfl, rfl, rfl, by decide +kernel, rfl, by decide +kernel, by decide +kernel⟩
theorem ok_at {f : Addr} {fd : FuncData} (F : Fun K "at" "Reader.at" (sR 2) f fd) (T : Txt K mg C CF fI) : FnOk P w K mg base CX0 2 f fd ["self", "signs"] (spAt K C) := by
  refine F.ok scAt (fun vs H Q E h => ?_) (fun cdv A outer s H vs Q E hr h => ⟨_, pss_one (ps_ret (pe_and (pe_cmpR op_lt (pe_fld (pv 0) rfl) (pe_callB call_len_seq (by rfl) T.len PySem.boot_len (pa_cons (pe_fld (pv 0) rfl) pa_nil)) (nomark _))
      (pe_one (pe_cmpR op_in_seq (pe_ix ix_list (pe_fld (pv 0) rfl) (pe_fld (pv 0) rfl) (fun _ _ => rfl))
        (pe_lc (own := [("sign", 2)]) (g := gName 2) (tt := tYes) rfl scAt.nd (pi_str (pv 1)) (blkOk_by (N := ["self", "signs", "sign"]) (sc := defScope (sR 2)) (by decide +kernel)) (fun _ _ _ _ _ => pg_name (i := 2) scAt.nd rfl (Or.inl rfl)) (fun _ _ _ _ _ => pts_nil)
          (fun _ _ _ _ _ => pe_callB call_ord (by rfl) T.ord (by decide +kernel) (pa_cons (pv 2) pa_nil))) (by rfl))))), ?_⟩)
  · unfold spAt at h
    obtain ⟨_, _, _, _, _, _, _, _, rfl, _⟩ := h
    rfl
  · unfold spAt at h
    obtain ⟨a, dx, ag, p, an, ab, g, z, rfl, r, sq, hp, hz, hQ⟩ := h
    refine ⟨_, rfl, a, C, dx, _, _, rfl, r, T.cl, T.nP, rF_place, _, rfl, a, C, dx, _, _, rfl, r, T.cl, T.nG, rF_given, ag, _, rfl, .inl sq, ?_⟩
    refine ⟨_, _, rfl, rfl, _, rfl, ?_⟩
    by_cases c : p < g.length
    · refine if_true_of (decide_eq_true (by rw [gv_len]; omega)) ?_
      have hg : g[p]? = some g[p] := List.getElem?_eq_getElem c
      refine ⟨_, rfl, a, C, dx, _, _, rfl, r, T.cl, T.nG, rF_given, _, rfl, a, C, dx, _, _, rfl, r, T.cl, T.nP, rF_place, ag, _, _, _, rfl, rfl, sq, gv_at hg, ?_⟩
      refine ⟨_, rfl, _, rfl, fun D hD => lc_it walk_str (fun i H' => H' D = some (.lst (((cds z).take i).map fun n => V.int (n : Nat))) ∧ Same H H') ?_ (fun _ _ _ _ => True.intro) ?_ ?_⟩
      · exact ⟨upd_same, Same.upd hD⟩
      · rintro i x H1 H2 hi ⟨e1, s1⟩ ⟨rfl, c2, hc, rfl⟩
        have hc' : (cds z)[i]? = some c2 := by rw [cds, Array.getElem?_toList]; exact hc
        refine ⟨rfl, ?_⟩
        unfold tYes
        dsimp only
        rw [if_pos rfl]
        refine ⟨_, rfl, _, rfl, rfl, _, e1, ?_, ?_, ?_⟩
        · rw [List.length_map, List.length_take]
          exact small1000 (by omega)
        · rw [upd_same]
          have e2 : (cds z).take (i + 1) = (cds z).take i ++ [c2] := by rw [List.take_add_one, hc']; rfl
          rw [e2, List.map_append]
          rfl
        · exact fun b o e => by
            rw [upd_ne (ne_of_none e hD)]
            exact s1 b o e
      · rintro H1 ⟨e1, s1⟩
        have el : (cds z).take z.cps.size = cds z := List.take_of_length_le (by simp [cds])
        rw [el] at e1
        refine ⟨D, _, rfl, .inl (SqL.of e1), rfl, by simp [flatV], ?_⟩
        have ei : inV (V.int (g[p].toNat : Nat)) ((cds z).map fun n => V.int (n : Nat)) = isAt g p z := by
          unfold isAt
          rw [hg]
          unfold inV
          rw [List.any_map, Bool.eq_iff_iff, List.any_eq_true, List.contains_iff_mem]
          constructor
          · rintro ⟨n, hn, e⟩
            have e' : ((n : Int) == (g[p].toNat : Int)) = true := e
            have e2 : n = g[p].toNat := Int.ofNat.inj (beq_iff_eq.mp e')
            exact e2 ▸ hn
          · intro hn
            exact ⟨_, hn, beq_self_eq_true (_ : Int)⟩
        rw [if_neg Bool.false_ne_true, ei]
        exact hQ _ s1
    · refine if_false_of (decide_eq_false (by rw [gv_len]; omega)) ?_
      have hg : g[p]? = none := List.getElem?_eq_none (by omega)
      have ei : isAt g p z = false := by unfold isAt; rw [hg]
      rw [← ei]
      exact hQ H (Same.refl H)
end
end Pat
end

section
namespace Pat
open PySem PySem.Spec PyProof.Rows L2
/-- a method and its promise -/
def MOk (P : Program) (w : World) (K : PySem.W.Frag) (mg : Str → Option Value) (base : Heap) (CX : CXT) (C : Addr) (k : Nat) (m : Str) (ps : List Str) (sp : Sp) : Prop :=
  ∃ f fd, Meth K C m f ∧ Binds K fd ps [] ∧ FnOk P w K mg base CX k f fd ps sp
/-- the text of one sign -/
def sg (c : Nat) : Str := ⟨#[c]⟩
section
variable {P : Program} {w : World} {K : PySem.W.Frag} {mg : Str → Option Value} {base : Heap} {C CF fI : Addr}
theorem need_pre {H : Hp} {a dx ag an ab : Addr} {p : Nat} {g : List UInt8} {Q : VK} {E : XK} (r : RAt C H a dx ag p an ab) (sq : SqL K H ag (gv g)) (h1 : p = g.length → Out CF ⟨1, p⟩ E) (h2 : p ≠ g.length → Q .non H) : spNeed K C CF [.ref a] H Q E := by
  unfold spNeed
  exact ⟨a, dx, ag, p, an, ab, g, rfl, r, sq, h1, h2⟩
/-! ### take -/
@[irreducible] def spTake (K : PySem.W.Frag) (C CF : Addr) : Sp := fun vs H Q E => ∃ (a dx ag : Addr) (p : Nat) (an ab : Addr) (g : List UInt8) (z : Str), vs = [.ref a, .str z] ∧ RAt C H a dx ag p an ab ∧ SqL K H ag (gv g) ∧ p ≤ g.length ∧
  match g[p]? with
  | none => Out CF ⟨1, p⟩ E
  | some c => if (cds z).contains c.toNat = true then ∀ H', RAt C H' a dx ag (p + 1) an ab → Kept H H' a → Q (.str (sg c.toNat)) H' else Out CF ⟨2, p⟩ E
theorem scTake : FnScope ["self", "signs", "sign"] ["self", "signs"] (defScope (sR 3)) := ⟨rfl, rfl, rfl, by decide +kernel, rfl, by decide +kernel, by decide +kernel⟩
theorem ok_take {f : Addr} {fd : FuncData} (F : Fun K "take" "Reader.take" (sR 3) f fd) (T : Txt K mg C CF fI) (M1 : MOk P w K mg base (L2N.CX P w) C 2 "need_byte" ["self"] (spNeed K C CF)) :
    FnOk P w K mg base (L2N.CX P w) 3 f fd ["self", "signs"] (spTake K C CF) := by
  obtain ⟨f1, fd1, m1, b1, G1⟩ := M1
  refine F.okN scTake (fun vs H Q E h => ?_) (fun cdv A outer s H vs Q E hr h => ⟨_, pss_cons (ps_expr (pe_meth0 (pv 0) T.cl m1 G1 hr b1 .nil (L2N.passes_call (L2N.takes_of rfl rfl rfl rfl) (fun _ _ _ _ h => h))))
      (pss_cons (ps_for (passes_of rfl) rfl (pi_str (pv 1)) (pg_name (i := 2) scTake.nd rfl (Or.inl rfl))
        (pss_one (ps_if (pt_cmpR op_eq (pe_ix ix_list (pe_fld (pv 0) rfl) (pe_fld (pv 0) rfl) (fun _ _ => rfl)) (pe_callB call_ord (by rfl) T.ord (by decide +kernel) (pa_cons (pv 2) pa_nil)) (nomark _))
          (pss_cons (ps_fldaug (pv 0) pe_int in_add) (pss_one (ps_ret (pv 2)))) pss_nil)))
      (pss_one (ps_raiseFault rfl T.ft hr (L2N.takes_of rfl rfl rfl rfl) (by exact (pa_cons (pe_gi T.k2) (pa_cons (pe_fld (pv 0) rfl) pa_nil)))))), ?_⟩)
  · unfold spTake at h
    obtain ⟨_, _, _, _, _, _, _, _, rfl, _⟩ := h
    rfl
  · unfold spTake at h
    obtain ⟨a, dx, ag, p, an, ab, g, z, rfl, r, sq, hp, hQ⟩ := h
    refine ⟨_, rfl, a, dx, _, rfl, r, rF_no (by decide +kernel), ?_⟩
    refine need_pre r sq (fun e => ?_) (fun e => ?_)
    · rw [List.getElem?_eq_none (by omega)] at hQ
      exact hQ
    · have hlt : p < g.length := by omega
      have hg : g[p]? = some g[p] := List.getElem?_eq_getElem hlt
      rw [hg] at hQ
      dsimp only at hQ
      refine ⟨_, rfl, _, rfl, for_it walk_str (fun i σ H1 => H1 = H ∧ (∃ v, σ = [some (.ref a), some (.str z), v]) ∧ ∀ n ∈ (cds z).take i, n ≠ g[p].toNat) ?_ (fun _ _ _ _ _ => True.intro) ?_ ?_⟩
      · exact ⟨rfl, ⟨none, rfl⟩, by simp⟩
      · rintro i x σ H1 H2 hi ⟨rfl, ⟨v, rfl⟩, hn⟩ ⟨rfl, c2, hc, rfl⟩
        have hc' : (cds z)[i]? = some c2 := by rw [cds, Array.getElem?_toList]; exact hc
        refine ⟨_, rfl, a, C, dx, _, _, rfl, r, T.cl, T.nG, rF_given, _, rfl, a, C, dx, _, _, rfl, r, T.cl, T.nP, rF_place, ag, _, _, _, rfl, rfl, sq, gv_at hg, _, rfl, _, rfl, rfl, rfl, _, rfl, ?_⟩
        by_cases hcc : c2 = g[p].toNat
        · refine if_true_of (decide_eq_true (by rw [← hcc]; rfl)) ?_
          rw [if_pos (by rw [List.contains_iff_mem, ← hcc]; exact List.mem_of_getElem? hc')] at hQ
          refine ⟨_, rfl, a, C, dx, _, _, rfl, r, T.cl, T.nP, rF_place, _, _, rfl, rfl, dx, _, r, by show 4 < 1000; decide, _, rfl, ?_⟩
          subst hcc
          exact hQ _ (upd_same.trans (congrArg (fun q => some (HO.ins C dx q)) (rF_put (q := p + 1)))) Kept.upd
        · refine if_false_of (decide_eq_false fun e => hcc ?_) ⟨rfl, ⟨_, rfl⟩, ?_⟩
          · injection e with e
            exact (Int.ofNat.inj e).symm
          · have e2 : (cds z).take (i + 1) = (cds z).take i ++ [c2] := by rw [List.take_add_one, hc']; rfl
            rw [e2]
            intro n hn2
            rcases List.mem_append.mp hn2 with h | h
            · exact hn n h
            · rw [List.mem_singleton.mp h]
              exact hcc
      · rintro σ H1 ⟨rfl, ⟨v, rfl⟩, hn⟩
        have el : (cds z).take z.cps.size = cds z := List.take_of_length_le (by simp [cds])
        rw [el] at hn
        rw [if_neg (by rw [List.contains_iff_mem]; exact fun h => hn _ h rfl)] at hQ
        exact ⟨_, rfl, a, C, dx, _, _, rfl, r, T.cl, T.nP, rF_place, _, _, rfl, fun d hd => hQ d _ upd_same⟩
end
end Pat
end

section
namespace Pat
open PySem PySem.Spec PyProof.Rows L2
/-! ### d.get(k, x) of a dict that the top has written -/
/-- at d the top has written a dict that holds r at the key y -/
def KAt (P : Program) (w : World) (K : PySem.W.Frag) (d : Addr) (y : V) (r : Option V) : Prop :=
  (d == sysModules) = false ∧ ∃ (κ : Type) (_ : DecidableEq κ) (knd : KeyKind P w κ) (k : κ) (f : κ → Option Value), (∀ u, RelV y u → knd.is k u = true) ∧ (∀ h : Heap, K.In h → h.MapOf knd d f) ∧ RelO r (f k)
def KDic (K : PySem.W.Frag) (d : Addr) : Prop := ∃ o, K.lookup d = some o ∧ o.cls = .type "dict" ∧ o.dict = none
def tKGet (P : Program) (w : World) (K : PySem.W.Frag) (td ty tx : TE) : TE := fun σ H Q => td σ H fun x H1 => ∃ a, x = .ref a ∧ KDic K a ∧ ty σ H1 fun y H2 => tx σ H2 fun z H3 => ∃ r, KAt P w K a y r ∧ Q (r.getD z) H3
theorem pe_kget2 {X : Cx} {o e f : Expr} {td ty tx : TE} {apos cpos : Pos} (ho : PE X o td) (he : PE X e ty) (hf : PE X f tx) (m : M2 X o "get" apos e f cpos) :
    PE X (.Call (.Attribute o "get" apos) [e, f] [] cpos) (tKGet X.prog X.w X.K td ty tx) := by
  constructor
  intro pins s σ H Q I h
  refine wpAny_Call_method m.base m.few m.line PySem.F.plainAttrs_dict PySem.F.slot_dict_get PySem.F.type_dict_get
    (thn (ho.run pins s σ H _ I h) fun u s1 hh => ?_)
  obtain ⟨x, H1, I1, rx, a, ex, ⟨ob, hob, hcl, hdi⟩, q1⟩ := hh
  subst ex
  obtain rfl : u = Value.ref a := rx
  refine ⟨⟨ob, I1.kIn _ _ hob, hcl⟩, fun b eb => ?_, ?_⟩
  · cases eb
    exact ⟨ob, I1.kIn _ _ hob, hdi⟩
  rw [m.trees]
  refine Calls.callWith_builtin rfl (Calls.evalArgs_plain (Calls.spliced_cons
    (thn (he.run pins s1 σ H1 _ I1 q1) fun iv s2 h2 => ?_)))
  obtain ⟨y, H2, I2, ry, q2⟩ := h2
  refine Calls.spliced_cons (thn (hf.run pins s2 σ H2 _ I2 q2) fun fv s3 h3 => ?_)
  obtain ⟨z, H3, I3, rz, r, ⟨hlow, κ, dq, knd, k, f', hk, hm, hr⟩, q3⟩ := h3
  refine Calls.spliced_nil ?_
  have hmap := hm _ I3.kIn
  refine call_meetsIn PySem.F.slot_dict_get hmap.typeIs PySem.F.entry_dict_get (PySem.F.args_dict_get_3 _ _ _) (meets_dict_get_default knd a (hk _ ry) hlow fv) ?_
  exact ⟨f', hmap, r.getD z, H3, I3.tok _, hr.getD rz, q3⟩
/-- two entries, whole numbers -/
theorem kat_int {P : Program} {w : World} {K : PySem.W.Frag} {d : Addr} {n : Nat} {a1 a2 v1 v2 : Int} {t1 t2 t3 t4 : Tok} (hd : (d == sysModules) = false)
    (hl : K.lookup d = some ⟨.type "dict", none, .dict #[⟨a1, .int a1 t1, .int v1 t2⟩, ⟨a2, .int a2 t3, .int v2 t4⟩] n, #[]⟩) (h1 : hashInt a1 = a1) (h2 : hashInt a2 = a2) (i : Int) :
    KAt P w K d (.int i) (if i = a1 then some (.int v1) else if i = a2 then some (.int v2) else none) := by
  refine ⟨hd, Int, inferInstance, intKind P w, i, fun k => findBy Value.isInt #[⟨a1, .int a1 t1, .int v1 t2⟩, ⟨a2, .int a2 t3, .int v2 t4⟩] k, ?_, ?_, ?_⟩
  · rintro u ⟨t, rfl⟩
    exact beq_self_eq_true i
  · intro h X
    refine ⟨_, _, n, X _ _ hl, ⟨rfl, rfl, rfl⟩, rfl, ?_, fun _ => rfl⟩
    intro e he
    simp only [List.mem_toArray, List.mem_cons, List.not_mem_nil, or_false] at he
    rcases he with rfl | rfl
    · exact ⟨a1, beq_self_eq_true a1, h1.symm⟩
    · exact ⟨a2, beq_self_eq_true a2, h2.symm⟩
  · unfold findBy
    dsimp only
    rw [List.find?_toArray]
    by_cases c1 : i = a1
    · subst c1
      rw [if_pos rfl, List.find?_cons_of_pos (by exact beq_self_eq_true i)]
      exact ⟨t2, rfl⟩
    · rw [if_neg c1, List.find?_cons_of_neg (by intro h; exact c1 (beq_iff_eq.mp h).symm)]
      by_cases c2 : i = a2
      · subst c2
        rw [if_pos rfl, List.find?_cons_of_pos (by exact beq_self_eq_true i)]
        exact ⟨t4, rfl⟩
      · rw [if_neg c2, List.find?_cons_of_neg (by intro h; exact c2 (beq_iff_eq.mp h).symm)]
        trivial
end Pat
end

section
namespace Pat
open PySem PySem.Spec PyProof.Rows L2
/-! ### the mathematics of one scalar value -/
def fb (c : Nat) : Int := match PatUtf.leads c with
  | none => -1
  | some (k, _, _) => (k : Nat)
def lowN (c : Nat) : Nat := if c = 224 then 160 else if c = 240 then 144 else 128
def highN (c : Nat) : Nat := if c = 237 then 159 else if c = 244 then 143 else 191
def markN (k : Nat) : Nat := match k with
  | 0 => 0
  | 1 => 192
  | 2 => 224
  | _ => 240
theorem fb_eq : ∀ c < 256, fb c = if c ≤ 127 then 0 else if 194 ≤ c ∧ c ≤ 223 then 1 else if 224 ≤ c ∧ c ≤ 239 then 2 else if 240 ≤ c ∧ c ≤ 244 then 3 else -1 := by decide +kernel
def leadsB (c : Nat) : Bool := match PatUtf.leads c with
  | none => true
  | some (k, lo, hi) => decide (k ≤ 3) && (decide (k = 0) || (decide (lo = lowN c) && decide (hi = highN c))) && decide (PatUtf.firstBits k c + markN k = c)
theorem leadsB_all : ∀ c < 256, leadsB c = true := by decide +kernel
theorem leads_some {c k lo hi : Nat} (hc : c < 256) (h : PatUtf.leads c = some (k, lo, hi)) : fb c = (k : Nat) ∧ k ≤ 3 ∧ (k = 0 ∨ (lo = lowN c ∧ hi = highN c)) ∧ PatUtf.firstBits k c + markN k = c := by
  refine ⟨by unfold fb; rw [h], ?_⟩
  have q := leadsB_all c hc
  unfold leadsB at q
  rw [h] at q
  simp only [Bool.and_eq_true, Bool.or_eq_true, decide_eq_true_eq] at q
  exact ⟨q.1.1, q.1.2, q.2⟩
theorem leads_none {c : Nat} (h : PatUtf.leads c = none) : fb c = -1 := by unfold fb; rw [h]
theorem low_ge (c : Nat) : 128 ≤ lowN c ∧ highN c ≤ 191 := by
  unfold lowN highN
  constructor <;> (repeat' split) <;> omega
/-! ### following_bytes -/
theorem chain_rd {lo hi c : Int} {Y N : Prop} (h : if lo ≤ c ∧ c ≤ hi then Y else N) :
    if decide (lo ≤ c) = true then (∃ i j, V.int c = V.int i ∧ V.int hi = V.int j ∧ ∃ k, V.bl (decide (i ≤ j)) = V.bl k ∧ if k = true then Y else N) else ∃ k, V.bl false = V.bl k ∧ if k = true then Y else N := by
  by_cases a : lo ≤ c
  · refine if_true_of (decide_eq_true a) ⟨_, _, rfl, rfl, _, rfl, ?_⟩
    by_cases b : c ≤ hi
    · rw [if_pos ⟨a, b⟩] at h
      exact if_true_of (decide_eq_true b) h
    · rw [if_neg (fun x => b x.2)] at h
      exact if_false_of (decide_eq_false b) h
  · rw [if_neg (fun x => a x.1)] at h
    exact if_false_of (decide_eq_false a) ⟨_, rfl, if_false_of rfl h⟩
theorem ite_if {a b : Prop} [Decidable a] [Decidable b] {Y N Y' N' : Prop} (e : a ↔ b) (h1 : Y → Y') (h2 : N → N') (h : if a then Y else N) : if b then Y' else N' := by
  by_cases c : a
  · rw [if_pos (e.mp c)]
    rw [if_pos c] at h
    exact h1 h
  · rw [if_neg (fun x => c (e.mpr x))]
    rw [if_neg c] at h
    exact h2 h
abbrev sFB : Stmt := top i_following_bytes
section
variable {P : Program} {w : World} {K : PySem.W.Frag} {mg : Str → Option Value} {base : Heap} {C CF fI : Addr}
def spFB : Sp := fun vs H Q _ => ∃ c : Nat, c < 256 ∧ vs = [.int c] ∧ Q (.int (fb c)) H
theorem scFB : FnScope ["first"] ["first"] (defScope sFB) := ⟨rfl, rfl, rfl, by decide +kernel, rfl, by decide +kernel, by decide +kernel⟩
theorem ok_fb {f : Addr} {fd : FuncData} (F : Fun K "following_bytes" "following_bytes" sFB f fd) : FnOk P w K mg base CX0 2 f fd ["first"] spFB := by
  refine F.ok scFB (fun vs H Q E h => ?_) (fun cdv A outer s H vs Q E hr h => ⟨_, pss_cons (ps_if (pt_cmpR op_le (pv 0) pe_int (nomark _)) (pss_one (ps_ret pe_int)) pss_nil)
      (pss_cons (ps_if (pt_chain op_le op_le pe_int (pv 0) pe_int) (pss_one (ps_ret pe_int)) pss_nil)
      (pss_cons (ps_if (pt_chain op_le op_le pe_int (pv 0) pe_int) (pss_one (ps_ret pe_int)) pss_nil)
      (pss_cons (ps_if (pt_chain op_le op_le pe_int (pv 0) pe_int) (pss_one (ps_ret pe_int)) pss_nil)
      (pss_one (ps_ret (pe_un un_neg pe_int)))))), ?_⟩)
  · obtain ⟨_, _, rfl, _⟩ := h
    rfl
  · obtain ⟨c, hc, rfl, hQ⟩ := h
    rw [fb_eq c hc] at hQ
    refine ⟨_, rfl, _, _, rfl, rfl, _, rfl, ?_⟩
    by_cases c1 : c ≤ 127
    · rw [if_pos c1] at hQ
      exact if_true_of (decide_eq_true (by omega)) hQ
    · rw [if_neg c1] at hQ
      refine if_false_of (decide_eq_false (by omega)) ?_
      by_cases c2 : 194 ≤ c ∧ c ≤ 223
      · rw [if_pos c2] at hQ
        refine ⟨_, rfl, _, _, rfl, rfl, _, rfl, chain_rd ?_⟩
        rw [if_pos (by omega)]
        exact hQ
      rw [if_neg c2] at hQ
      refine ⟨_, rfl, _, _, rfl, rfl, _, rfl, chain_rd ?_⟩
      rw [if_neg (by omega)]
      by_cases c3 : 224 ≤ c ∧ c ≤ 239
      · rw [if_pos c3] at hQ
        refine ⟨_, rfl, _, _, rfl, rfl, _, rfl, chain_rd ?_⟩
        rw [if_pos (by omega)]
        exact hQ
      rw [if_neg c3] at hQ
      refine ⟨_, rfl, _, _, rfl, rfl, _, rfl, chain_rd ?_⟩
      rw [if_neg (by omega)]
      by_cases c4 : 240 ≤ c ∧ c ≤ 244
      · rw [if_pos c4] at hQ
        refine ⟨_, rfl, _, _, rfl, rfl, _, rfl, chain_rd ?_⟩
        rw [if_pos (by omega)]
        exact hQ
      rw [if_neg c4] at hQ
      refine ⟨_, rfl, _, _, rfl, rfl, _, rfl, chain_rd ?_⟩
      rw [if_neg (by omega)]
      exact ⟨_, rfl, hQ⟩
end
end Pat
end

section
namespace Pat
open PySem PySem.Spec PyProof.Rows L2
open PySem.FaultX (FaultTxt)
/-- what the top has written ahead of scalar_at -/
structure TxS (P : Program) (w : World) (K : PySem.W.Frag) (mg : Str → Option Value) (CF fI fF : Addr) : Prop where
  ft : FaultTxt K mg CF fI
  k1 : ∃ t, mg "ENDS_TOO_SOON" = some (.int 1 t)
  k2 : ∃ t, mg "CANNOT_STAND" = some (.int 2 t)
  len : mg "len" = none
  range : mg "range" = none
  low : ∃ d, mg "LOWEST_SECOND" = some (.ref d) ∧ KDic K d ∧ ∀ i : Int, KAt P w K d (.int i) (if i = 224 then some (.int 160) else if i = 240 then some (.int 144) else none)
  high : ∃ d, mg "HIGHEST_SECOND" = some (.ref d) ∧ KDic K d ∧ ∀ i : Int, KAt P w K d (.int i) (if i = 237 then some (.int 159) else if i = 244 then some (.int 143) else none)
  marks : ∃ t, mg "FIRST_BYTE_MARKS" = some (.ref t) ∧ ∀ H, SqT K H t [.int 0, .int 192, .int 224, .int 240]
  gF : mg "following_bytes" = some (.ref fF)
  kF : PySem.W.keepIn K (.ref fF) = true
abbrev sSA : Stmt := top i_scalar_at
section
variable {P : Program} {w : World} {K : PySem.W.Frag} {mg : Str → Option Value} {base : Heap} {C CF fI fF : Addr}
@[irreducible] def spSA (K : PySem.W.Frag) (CF : Addr) : Sp := fun vs H Q E => ∃ (ag : Addr) (p : Nat) (g : List UInt8), vs = [.ref ag, .int p] ∧ SqL K H ag (gv g) ∧ p < g.length ∧ g.length ≤ 1000 ∧
  match PatWords.valueP p (g.drop p) with
  | .error e => Out CF e E
  | .ok (v, _, q) => ∀ H' t, Same H H' → H t = none → H' t = some (.tup [.int (v : Nat), .int (q : Nat)]) → Q (.ref t) H'
abbrev nmSA : List Str := ["given", "place", "first", "following", "value", "behind", "lowest", "highest", "at"]
theorem scSA : FnScope nmSA ["given", "place"] (defScope sSA) := ⟨rfl, rfl, rfl, by decide +kernel, rfl, by decide +kernel, by decide +kernel⟩
theorem drop_cons {g : List UInt8} {p : Nat} {c : UInt8} (h : g[p]? = some c) : g.drop p = c :: g.drop (p + 1) := by
  obtain ⟨hl, e⟩ := List.getElem?_eq_some_iff.mp h
  rw [List.drop_eq_getElem_cons hl, e]
def SAfin (CF : Addr) (H : Hp) (Q : VK) (E : XK) (p n : Nat) (res : Except Nat (Nat × List UInt8)) : Prop := match res with
  | .error q => Out CF (if q = n then ⟨1, q⟩ else ⟨2, q⟩) E
  | .ok (v, r) => ∀ H' t, Same H H' → H t = none → H' t = some (.tup [.int (v : Nat), .int ((p + (n - p - r.length) : Nat))]) → Q (.ref t) H'
theorem lowGet (c : Nat) : ((if (c : Int) = 224 then some (V.int 160) else if (c : Int) = 240 then some (V.int 144) else none).getD (V.int 128)) = V.int (lowN c : Nat) := by
  unfold lowN
  by_cases h1 : c = 224
  · rw [if_pos (by omega), if_pos h1]; rfl
  · rw [if_neg (by omega), if_neg h1]
    by_cases h2 : c = 240
    · rw [if_pos (by omega), if_pos h2]; rfl
    · rw [if_neg (by omega), if_neg h2]; rfl
theorem highGet (c : Nat) : ((if (c : Int) = 237 then some (V.int 159) else if (c : Int) = 244 then some (V.int 143) else none).getD (V.int 191)) = V.int (highN c : Nat) := by
  unfold highN
  by_cases h1 : c = 237
  · rw [if_pos (by omega), if_pos h1]; rfl
  · rw [if_neg (by omega), if_neg h1]
    by_cases h2 : c = 244
    · rw [if_pos (by omega), if_pos h2]; rfl
    · rw [if_neg (by omega), if_neg h2]; rfl
theorem follow_step {k lo hi x q : Nat} {c : UInt8} {b : List UInt8} : PatUtf.follow (k + 1) lo hi x q (c :: b) = if lo ≤ c.toNat ∧ c.toNat ≤ hi then PatUtf.follow k 128 191 (64 * x + c.toNat % 64) (q + 1) b else .error q := rfl
theorem ok_sa {f : Addr} {fd fdF : FuncData} (F : Fun K "scalar_at" "scalar_at" sSA f fd) (T : TxS P w K mg CF fI fF) (GF : FnOk P w K mg base CX0 2 fF fdF ["first"] spFB) (bF : Binds K fdF ["first"] []) :
    FnOk P w K mg base (L2N.CX P w) 3 f fd ["given", "place"] (spSA K CF) := by
  obtain ⟨dl, hl1, hl2, hl3⟩ := T.low
  obtain ⟨dh, hh1, hh2, hh3⟩ := T.high
  obtain ⟨tm, hm1, hm2⟩ := T.marks
  refine F.okN scSA (fun vs H Q E h => ?_) (fun cdv A outer s H vs Q E hr h => ⟨_, pss_cons (ps_set (i := 2) scSA.nd rfl (Or.inl rfl) (pe_ix ix_list (pv 0) (pv 1) (fun _ _ => rfl)))
      (pss_cons (ps_set (i := 3) scSA.nd rfl (Or.inl rfl) (pe_call GF hr rfl T.gF T.kF bF .nil pass0 (pa_cons (pv 2) pa_nil)))
      (pss_cons (ps_if (pt_cmpR op_lt (pv 3) pe_int (nomark _)) (pss_one (ps_raiseFault rfl T.ft hr (L2N.takes_of rfl rfl rfl rfl) (by exact (pa_cons (pe_gi T.k2) (pa_cons (pv 1) pa_nil))))) pss_nil)
      (pss_cons (ps_set (i := 4) scSA.nd rfl (Or.inl rfl) (pe_op op_sub (pv 2) (pe_ix ix_tup (pe_glob (v := .ref tm) rfl hm1 rfl) (pv 3) (fun _ _ => rfl))))
      (pss_cons (ps_set (i := 5) scSA.nd rfl (Or.inl rfl) (pe_op op_add (pe_op op_add (pv 1) pe_int) (pv 3)))
      (pss_cons (ps_set (i := 6) scSA.nd rfl (Or.inl rfl) (pe_kget2 (pe_glob (v := .ref dl) rfl hl1 rfl) (pv 2) pe_int ⟨by rfl, by rfl, by rfl, by rfl⟩))
      (pss_cons (ps_set (i := 7) scSA.nd rfl (Or.inl rfl) (pe_kget2 (pe_glob (v := .ref dh) rfl hh1 rfl) (pv 2) pe_int ⟨by rfl, by rfl, by rfl, by rfl⟩))
      (pss_cons (ps_for (passes_of rfl) rfl (pi_range2 (by rfl) T.range (pa_cons (pe_op op_add (pv 1) pe_int) (pa_cons (pv 5) pa_nil))) (pg_name (i := 8) scSA.nd rfl (Or.inl rfl))
        (pss_cons (ps_if (pt_cmpR op_eq (pv 8) (pe_callB call_len_seq (by rfl) T.len PySem.boot_len (pa_cons (pv 0) pa_nil)) (nomark _)) (pss_one (ps_raiseFault rfl T.ft hr (L2N.takes_of rfl rfl rfl rfl) (by exact (pa_cons (pe_gi T.k1) (pa_cons (pv 8) pa_nil))))) pss_nil)
        (pss_cons (ps_if (PW.pt (pw_or (pt_cmpR op_lt (pe_ix ix_list (pv 0) (pv 8) (fun _ _ => rfl)) (pv 6) (nomark _)) (pw_or1 (pt_cmpR op_gt (pe_ix ix_list (pv 0) (pv 8) (fun _ _ => rfl)) (pv 7) (nomark _)))))
          (pss_one (ps_raiseFault rfl T.ft hr (L2N.takes_of rfl rfl rfl rfl) (by exact (pa_cons (pe_gi T.k2) (pa_cons (pv 8) pa_nil))))) pss_nil)
        (pss_cons (ps_set (i := 4) scSA.nd rfl (Or.inl rfl) (pe_op op_sub (pe_op op_add (pe_op op_mul (pv 4) pe_int) (pe_ix ix_list (pv 0) (pv 8) (fun _ _ => rfl))) pe_int))
        (pss_cons (ps_set (i := 6) scSA.nd rfl (Or.inl rfl) pe_int) (pss_one (ps_set (i := 7) scSA.nd rfl (Or.inl rfl) pe_int)))))))
      (pss_one (ps_ret (pe_tup (pa_cons (pv 4) (pa_cons (pv 5) pa_nil)))))))))))), ?_⟩)
  · unfold spSA at h
    obtain ⟨_, _, _, rfl, _⟩ := h
    rfl
  · unfold spSA at h
    obtain ⟨ag, p, g, rfl, sq, hp, h1000, hQ⟩ := h
    have hg : g[p]? = some g[p] := List.getElem?_eq_getElem hp
    have hc : g[p].toNat < 256 := g[p].toNat_lt
    rw [drop_cons hg] at hQ
    unfold PatWords.valueP at hQ
    unfold PatUtf.scalarAt at hQ
    dsimp only at hQ
    refine ⟨_, rfl, _, rfl, ag, _, _, _, rfl, rfl, sq, gv_at hg, _, rfl, g[p].toNat, hc, rfl, ?_⟩
    refine ⟨_, rfl, _, _, rfl, rfl, _, rfl, ?_⟩
    cases e : PatUtf.leads g[p].toNat with
    | none =>
      rw [e] at hQ
      dsimp only at hQ
      rw [leads_none e]
      refine if_true_of rfl ?_
      rw [if_neg (by simp only [List.length_cons]; omega)] at hQ
      exact ⟨_, rfl, _, _, rfl, fun d hd => hQ d _ upd_same⟩
    | some z =>
      obtain ⟨k, lo, hi⟩ := z
      rw [e] at hQ
      dsimp only at hQ
      obtain ⟨ef, hk3, hlh, hb⟩ := leads_some hc e
      rw [ef]
      refine if_false_of (decide_eq_false (by omega)) ?_
      have hn : p + (g[p] :: g.drop (p + 1)).length = g.length := by
        rw [← drop_cons hg, List.length_drop]
        omega
      have hn2 : (g[p] :: g.drop (p + 1)).length = g.length - p := by omega
      have hF : SAfin CF H Q E p g.length (PatUtf.follow k lo hi (PatUtf.firstBits k g[p].toNat) (p + 1) (g.drop (p + 1))) := by
        rw [hn, hn2] at hQ
        unfold SAfin
        cases ef2 : PatUtf.follow k lo hi (PatUtf.firstBits k g[p].toNat) (p + 1) (g.drop (p + 1)) with
        | error q => rw [ef2] at hQ; exact hQ
        | ok z => rw [ef2] at hQ; exact hQ
      clear hQ
      have hF2 : SAfin CF H Q E p g.length (PatUtf.follow k (lowN g[p].toNat) (highN g[p].toNat) (PatUtf.firstBits k g[p].toNat) (p + 1) (g.drop (p + 1))) := by
        rcases hlh with h0 | ⟨h1, h2⟩
        · subst h0
          exact hF
        · rw [← h1, ← h2]
          exact hF
      clear hF
      have hm : ∃ m, atI [V.int 0, .int 192, .int 224, .int 240] ((k : Nat) : Int) = some m ∧ m = .int ((markN k : Nat) : Int) := by
        have : k = 0 ∨ k = 1 ∨ k = 2 ∨ k = 3 := by omega
        rcases this with h | h | h | h <;> subst h <;> exact ⟨_, rfl, rfl⟩
      obtain ⟨m, hm, rfl⟩ := hm
      refine ⟨_, rfl, _, rfl, tm, _, _, _, rfl, rfl, hm2 _, hm, _, _, rfl, rfl, ?_⟩
      refine ⟨_, rfl, _, _, rfl, rfl, _, rfl, _, _, rfl, rfl, ?_⟩
      refine ⟨_, rfl, hl2, _, rfl, _, hl3 _, ?_⟩
      refine ⟨_, rfl, hh2, _, rfl, _, hh3 _, ?_⟩
      refine ⟨_, rfl, _, _, rfl, rfl, _, rfl, _, _, rfl, ⟨by omega, by omega, by omega, by omega⟩, ?_⟩
      have en : ((p : Int) + 1 + (k : Nat) - ((p : Int) + 1)).toNat = k := by omega
      rw [lowGet, highGet, en]
      obtain ⟨hlo, hhi⟩ := low_ge g[p].toNat
      refine for_range (lo := (p : Int) + 1) (n := k) (fun i σ H1 => H1 = H ∧ i ≤ k ∧ ∃ (x l h : Nat) (xi bi : Int) (v8 : Option V),
        σ = [some (.ref ag), some (.int p), some (.int g[p].toNat), some (.int k), some (.int xi), some (.int bi), some (.int l), some (.int h), v8] ∧ xi = x ∧ bi = ((p + 1 + k : Nat) : Int) ∧
        128 ≤ l ∧ h ≤ 191 ∧ p + 1 + i ≤ g.length ∧ SAfin CF H Q E p g.length (PatUtf.follow (k - i) l h x (p + 1 + i) (g.drop (p + 1 + i)))) ?_ ?_ ?_
      · exact ⟨rfl, Nat.zero_le _, PatUtf.firstBits k g[p].toNat, lowN g[p].toNat, highN g[p].toNat, _, _, none, rfl, by omega, by omega, hlo, hhi, by omega, hF2⟩
      · rintro i σ H1 hi ⟨rfl, _, x, l, h, xi, bi, v8, rfl, hx, hbi, h1, h2, h3, hf⟩
        have ei : ((p : Int) + 1 + (i : Nat)) = ((p + 1 + i : Nat) : Int) := by omega
        rw [ei]
        refine ⟨_, rfl, _, rfl, ag, _, rfl, .inl sq, rfl, _, rfl, ?_⟩
        obtain ⟨j, hj⟩ : ∃ j, k - i = j + 1 := ⟨k - i - 1, by omega⟩
        rw [hj] at hf
        by_cases c1 : p + 1 + i = g.length
        · refine if_true_of (by rw [gv_len, c1]; exact decide_eq_true rfl) ?_
          rw [c1, List.drop_length] at hf
          have hf' : Out CF (if g.length = g.length then ⟨1, g.length⟩ else ⟨2, g.length⟩) E := hf
          rw [if_pos rfl] at hf'
          rw [c1]
          exact ⟨_, rfl, _, _, rfl, fun d hd => hf' d _ upd_same⟩
        · have hq : p + 1 + i < g.length := by omega
          refine if_false_of (decide_eq_false fun e => c1 ?_) ?_
          · rw [gv_len] at e
            injection e with e
            omega
          · have hgq : g[p + 1 + i]? = some g[p + 1 + i] := List.getElem?_eq_getElem hq
            rw [drop_cons hgq, follow_step] at hf
            refine ⟨_, rfl, _, rfl, ag, _, _, _, rfl, rfl, sq, gv_at hgq, _, rfl, _, _, rfl, rfl, _, rfl, ?_⟩
            by_cases a1 : g[p + 1 + i].toNat < l
            · rw [if_neg (by omega)] at hf
              have hf' : Out CF (if p + 1 + i = g.length then ⟨1, p + 1 + i⟩ else ⟨2, p + 1 + i⟩) E := hf
              rw [if_neg c1] at hf'
              exact if_true_of (decide_eq_true (by omega)) (if_true_of rfl ⟨_, rfl, _, _, rfl, fun d hd => hf' d _ upd_same⟩)
            · refine if_false_of (decide_eq_false (by omega)) ⟨_, rfl, _, rfl, ag, _, _, _, rfl, rfl, sq, gv_at hgq, _, rfl, _, _, rfl, rfl, _, rfl, ?_⟩
              by_cases a2 : h < g[p + 1 + i].toNat
              · rw [if_neg (by omega)] at hf
                have hf' : Out CF (if p + 1 + i = g.length then ⟨1, p + 1 + i⟩ else ⟨2, p + 1 + i⟩) E := hf
                rw [if_neg c1] at hf'
                exact if_true_of (decide_eq_true (by omega)) ⟨_, rfl, _, _, rfl, fun d hd => hf' d _ upd_same⟩
              · rw [if_pos (by omega)] at hf
                refine if_false_of (decide_eq_false (by omega)) ?_
                refine ⟨_, rfl, _, _, rfl, rfl, .inr ⟨by decide, by decide⟩, _, rfl, _, rfl, ag, _, _, _, rfl, rfl, sq, gv_at hgq, _, _, rfl, rfl, _, _, rfl, rfl, ?_⟩
                refine ⟨rfl, by omega, 64 * x + g[p + 1 + i].toNat % 64, 128, 191, _, _, _, rfl, by omega, hbi, by omega, by omega, by omega, ?_⟩
                have ek : k - (i + 1) = j := by omega
                rw [ek]
                exact hf
      · rintro σ H1 ⟨rfl, _, x, l, h, xi, bi, v8, rfl, hx, hbi, h1, h2, h3, hf⟩
        rw [Nat.sub_self] at hf
        have hf' : ∀ H' t, Same H1 H' → H1 t = none → H' t = some (.tup [.int (x : Nat), .int ((p + (g.length - p - (g.drop (p + 1 + k)).length) : Nat))]) → Q (.ref t) H' := hf
        have eb : p + (g.length - p - (g.drop (p + 1 + k)).length) = p + 1 + k := by
          rw [List.length_drop]
          omega
        rw [eb] at hf'
        subst hx hbi
        exact ⟨_, rfl, _, rfl, by show 2 ≤ sizeLine; decide, fun t ht => hf' _ t (Same.upd ht) ht upd_same⟩
end
end Pat
end

section
namespace Pat
open PySem PySem.Spec PyProof.Rows L2
open PySem.FaultX (FaultTxt)
open PatUtf (Fault)
/-! ### where a reader stands behind what it has read -/
theorem follow_drop : ∀ (k lo hi x p : Nat) (b : List UInt8) (z : Nat × List UInt8), PatUtf.follow k lo hi x p b = .ok z → z.2 = b.drop k ∧ k ≤ b.length
  | 0, _, _, _, _, b, z, h => by
    simp only [PatUtf.follow] at h
    cases h
    exact ⟨rfl, Nat.zero_le _⟩
  | k + 1, lo, hi, x, p, [], z, h => by
    simp only [PatUtf.follow] at h
    cases h
  | k + 1, lo, hi, x, p, c :: b, z, h => by
    simp only [PatUtf.follow] at h
    split at h
    · obtain ⟨h1, h2⟩ := follow_drop k _ _ _ _ b z h
      exact ⟨h1, Nat.succ_le_succ h2⟩
    · cases h
theorem valueP_drop {g : List UInt8} {p v q : Nat} {r : List UInt8} (h : PatWords.valueP p (g.drop p) = .ok (v, r, q)) : p < q ∧ q ≤ g.length ∧ r = g.drop q := by
  unfold PatWords.valueP at h
  cases e : PatUtf.scalarAt p (g.drop p) with
  | error x => rw [e] at h; cases h
  | ok y =>
    obtain ⟨v', r'⟩ := y
    rw [e] at h
    cases h
    cases eb : g.drop p with
    | nil => rw [eb] at e; cases e
    | cons c b =>
      rw [eb] at e
      have hl : (g.drop p).length = b.length + 1 := by rw [eb]; rfl
      rw [List.length_drop] at hl
      unfold PatUtf.scalarAt at e
      dsimp only at e
      cases ec : PatUtf.leads c.toNat with
      | none => rw [ec] at e; cases e
      | some z =>
        obtain ⟨k, lo, hi⟩ := z
        rw [ec] at e
        obtain ⟨h1, h2⟩ := follow_drop _ _ _ _ _ _ _ e
        dsimp only at h1
        have hb : b = g.drop (p + 1) := by
          have : (g.drop p).drop 1 = b := by rw [eb]; rfl
          rw [← this, List.drop_drop]
        have hr : r = g.drop (p + 1 + k) := by rw [h1, hb, List.drop_drop]
        have hrl : r.length = b.length - k := by rw [h1, List.length_drop]
        have eq : p + ((c :: b).length - r.length) = p + 1 + k := by
          rw [hrl, List.length_cons]
          omega
        rw [eq]
        exact ⟨by omega, by omega, hr⟩
/-! ### signs -/
theorem u8_all {p : UInt8 → Bool} (h : ∀ n < 256, p (UInt8.ofNat n) = true) (c : UInt8) : p c = true := by
  have e : UInt8.ofNat c.toNat = c := UInt8.ofNat_toNat
  rw [← e]
  exact h _ c.toNat_lt
abbrev zSet : Str := "\\][-^"
abbrev zPart : Str := "|*+?{}.^$\\[]()<>-ntdwsDWS"
abbrev zEnd : Str := "|*+?{}.^$\\[]()<>-nt"
abbrev zAtom : Str := "|*+?{}.^$\\[]()<>-ntdwsDWSb"
abbrev zSigns : Str := "|*+?{}.^$\\[]()<>"
abbrev zCls : Str := "dwsDWS"
/-- the program's own ranges of the six signs -/
def prgCls (d : Nat) : List (Nat × Nat) := if d = 100 then [(48, 57)] else if d = 119 then [(48, 57), (65, 90), (95, 95), (97, 122)] else if d = 115 then [(9, 13), (32, 32)]
  else if d = 68 then [(0, 47), (58, 1114111)] else if d = 87 then [(0, 47), (58, 64), (91, 94), (96, 96), (123, 1114111)] else [(0, 8), (14, 31), (33, 1114111)]
def escV (d : Nat) : Nat := if d = 110 then 10 else if d = 116 then 9 else d
/-- what an escape stands for -/
def escL (d : Nat) : List (Nat × Nat) := if (cds zCls).contains d = true then prgCls d else [(escV d, escV d)]
/-- alike in what they have -/
def SameR (l m : List (Nat × Nat)) : Prop := ∀ x, PatWords.inSet l x = PatWords.inSet m x
theorem set_signs (c : UInt8) : (cds zSet).contains c.toNat = PatWords.setSigns.contains c := by
  have := u8_all (p := fun c => (cds zSet).contains c.toNat == PatWords.setSigns.contains c) (by decide +kernel) c
  exact beq_iff_eq.mp this
theorem out_signs (c : UInt8) : (cds zSigns).contains c.toNat = PatWords.signs.contains c := by
  have := u8_all (p := fun c => (cds zSigns).contains c.toNat == PatWords.signs.contains c) (by decide +kernel) c
  exact beq_iff_eq.mp this
theorem oth_digits : PatWords.others PatWords.digits = [(0, 47), (58, 1114111)] := by
  have e : List.mergeSort [(48, 57)] (fun (a b : Nat × Nat) => decide (a.1 ≤ b.1)) = [(48, 57)] := by simp [List.mergeSort]
  unfold PatWords.others PatWords.digits
  rw [e]
  rfl
theorem oth_word : PatWords.others PatWords.wordSet = [(0, 47), (58, 64), (91, 94), (96, 96), (123, 1114111)] := by
  have e : List.mergeSort [(65, 90), (97, 122), (48, 57), (95, 95)] (fun (a b : Nat × Nat) => decide (a.1 ≤ b.1)) = [(48, 57), (65, 90), (95, 95), (97, 122)] := by
    simp [List.mergeSort, List.MergeSort.Internal.splitInTwo, List.merge]
  unfold PatWords.others PatWords.wordSet
  rw [e]
  rfl
theorem oth_space : PatWords.others PatWords.spaceSet = [(0, 8), (14, 31), (33, 1114111)] := by
  have e : List.mergeSort [(32, 32), (9, 13)] (fun (a b : Nat × Nat) => decide (a.1 ≤ b.1)) = [(9, 13), (32, 32)] := by
    simp [List.mergeSort, List.MergeSort.Internal.splitInTwo, List.merge]
  unfold PatWords.others PatWords.spaceSet
  rw [e]
  rfl
/-- the six sets, their ranges written out -/
def clsP (c : UInt8) : Option (List (Nat × Nat)) := if c = 100 then some [(48, 57)] else if c = 119 then some [(65, 90), (97, 122), (48, 57), (95, 95)] else if c = 115 then some [(32, 32), (9, 13)]
  else if c = 68 then some [(0, 47), (58, 1114111)] else if c = 87 then some [(0, 47), (58, 64), (91, 94), (96, 96), (123, 1114111)] else if c = 83 then some [(0, 8), (14, 31), (33, 1114111)] else none
theorem classOf_is (c : UInt8) : PatWords.classOf c = clsP c := by
  unfold PatWords.classOf clsP
  rw [oth_digits, oth_word, oth_space]
  rfl
def clsB (c : UInt8) (l : List (Nat × Nat)) : Bool := prgCls c.toNat == (if c = 119 then [(48, 57), (65, 90), (95, 95), (97, 122)] else if c = 115 then [(9, 13), (32, 32)] else l)
def escB (c : UInt8) : Bool := match clsP c with
  | some l => (cds zPart).contains c.toNat && (!(cds zEnd).contains c.toNat && ((cds zAtom).contains c.toNat && ((cds zCls).contains c.toNat && (c != 98 && clsB c l))))
  | none => match PatWords.escapedOf c with
    | some x => (cds zPart).contains c.toNat && ((cds zEnd).contains c.toNat && ((cds zAtom).contains c.toNat && (!(cds zCls).contains c.toNat && (escV c.toNat == x && c != 98))))
    | none => !(cds zPart).contains c.toNat && (!(cds zEnd).contains c.toNat && ((cds zAtom).contains c.toNat == (c == 98)))
theorem escB_all (c : UInt8) : escB c = true := u8_all (by decide +kernel) c
theorem word_same : SameR [(48, 57), (65, 90), (95, 95), (97, 122)] PatWords.wordSet := fun x => by
  simp only [PatWords.inSet, PatWords.wordSet, List.any_cons, List.any_nil, Bool.or_false]
  rw [Bool.eq_iff_iff]
  simp only [Bool.or_eq_true, Bool.and_eq_true, decide_eq_true_eq]
  omega
theorem space_same : SameR [(9, 13), (32, 32)] PatWords.spaceSet := fun x => by
  simp only [PatWords.inSet, PatWords.spaceSet, List.any_cons, List.any_nil, Bool.or_false]
  rw [Bool.eq_iff_iff]
  simp only [Bool.or_eq_true, Bool.and_eq_true, decide_eq_true_eq]
  omega
theorem cls_same {c : UInt8} {l : List (Nat × Nat)} (h : PatWords.classOf c = some l) : SameR (escL c.toNat) l := by
  have hb := escB_all c
  unfold escB at hb
  rw [classOf_is] at h
  rw [h] at hb
  simp only [Bool.and_eq_true] at hb
  obtain ⟨_, _, _, h4, _, h6⟩ := hb
  unfold escL
  rw [if_pos h4]
  unfold clsB at h6
  have h6 := beq_iff_eq.mp h6
  by_cases c1 : c = 119
  · subst c1
    cases h
    exact word_same
  by_cases c2 : c = 115
  · subst c2
    cases h
    exact space_same
  rw [if_neg c1, if_neg c2] at h6
  rw [h6]
  exact fun _ => rfl
end Pat
end

section
namespace Pat
open PySem PySem.Spec PyProof.Rows L2
open PySem.FaultX (FaultTxt)
open PatUtf (Fault)
open PatWords (valueP oneP partsP)
/-- whether ranges are one value alone -/
def isJust (l : List (Nat × Nat)) : Bool := match l.head?, l.getLast? with
  | some a, some b => decide (a.1 = b.2)
  | _, _ => false
/-- one of a set's ends: its ranges; where it ends -/
def oneE (z : Str) (g : List UInt8) (p : Nat) : Except Fault (List (Nat × Nat) × Nat) := match g[p]? with
  | none => .error ⟨1, p⟩
  | some c => if c = 92 then (match g[p + 1]? with
      | none => .error ⟨1, p + 1⟩
      | some d => if (cds z).contains d.toNat = true then .ok (escL d.toNat, p + 2) else .error ⟨2, p + 1⟩)
    else if (cds zSet).contains c.toNat = true then .error ⟨2, p⟩ else match valueP p (g.drop p) with
      | .error e => .error e
      | .ok (v, _, q) => .ok ([(v, v)], q)
def lstOf : Nat ⊕ List (Nat × Nat) → List (Nat × Nat)
  | .inl x => [(x, x)]
  | .inr l => l
theorem drop_none {g : List UInt8} {p : Nat} (h : g[p]? = none) : g.drop p = [] := List.drop_eq_nil_of_le (List.getElem?_eq_none_iff.mp h)
/-- the specification's word on one end, and the program's -/
def OneIs (r : Except Fault (List (Nat × Nat) × Nat)) (w : Except Fault ((Nat ⊕ List (Nat × Nat)) × List UInt8 × Nat)) : Prop := match w with
  | .error e => r = .error e
  | .ok (.inl x, _, q) => r = .ok ([(x, x)], q)
  | .ok (.inr l, _, q) => ∃ l', r = .ok (l', q) ∧ SameR l' l ∧ isJust l' = false
theorem escL_just {d : UInt8} {l : List (Nat × Nat)} (h : PatWords.classOf d = some l) : isJust (escL d.toNat) = false := by
  rw [classOf_is] at h
  have := u8_all (p := fun c => (clsP c == none) || isJust (escL c.toNat) == false) (by decide +kernel) d
  simp only [Bool.or_eq_true, beq_iff_eq] at this
  rcases this with e | e
  · rw [e] at h; cases h
  · exact e
theorem oneE_part (g : List UInt8) (p : Nat) : OneIs (oneE zPart g p) (oneP p (g.drop p)) := by
  unfold oneE
  cases hc : g[p]? with
  | none => rw [drop_none hc]; rfl
  | some c =>
    rw [drop_cons hc]
    unfold oneP
    dsimp only
    by_cases h92 : c = 92
    · rw [if_pos h92, if_pos h92]
      cases hd : g[p + 1]? with
      | none => rw [drop_none hd]; rfl
      | some d =>
        rw [drop_cons hd]
        dsimp only
        have hb := escB_all d
        unfold escB at hb
        rw [← classOf_is] at hb
        cases e1 : PatWords.classOf d with
        | some l =>
          rw [e1] at hb
          simp only [Bool.and_eq_true, Bool.not_eq_true', beq_iff_eq] at hb
          rw [if_pos hb.1]
          exact ⟨_, rfl, cls_same e1, escL_just e1⟩
        | none =>
          rw [e1] at hb
          cases e2 : PatWords.escapedOf d with
          | some x =>
            rw [e2] at hb
            simp only [Bool.and_eq_true, Bool.not_eq_true', beq_iff_eq] at hb
            rw [if_pos hb.1]
            unfold escL
            rw [if_neg (by rw [hb.2.2.2.1]; exact Bool.false_ne_true), hb.2.2.2.2.1]
            rfl
          | none =>
            rw [e2] at hb
            simp only [Bool.and_eq_true, Bool.not_eq_true', beq_iff_eq] at hb
            rw [if_neg (by rw [hb.1]; exact Bool.false_ne_true)]
            rfl
    · rw [if_neg h92, if_neg h92, set_signs]
      by_cases hs : PatWords.setSigns.contains c = true
      · rw [if_pos hs, if_pos hs]
        rfl
      · rw [if_neg hs, if_neg hs]
        cases valueP p (c :: g.drop (p + 1)) with
        | error e => rfl
        | ok y => rfl
/-- an end of a part: none of it is no value -/
theorem oneE_end (g : List UInt8) (p : Nat) : oneE zEnd g p = (match oneP p (g.drop p) with
    | .error e => .error e
    | .ok (.inl x, _, q) => .ok ([(x, x)], q)
    | .ok (.inr _, _, _) => .error ⟨2, p + 1⟩) := by
  unfold oneE
  cases hc : g[p]? with
  | none => rw [drop_none hc]; rfl
  | some c =>
    rw [drop_cons hc]
    unfold oneP
    dsimp only
    by_cases h92 : c = 92
    · rw [if_pos h92, if_pos h92]
      cases hd : g[p + 1]? with
      | none => rw [drop_none hd]
      | some d =>
        rw [drop_cons hd]
        dsimp only
        have hb := escB_all d
        unfold escB at hb
        rw [← classOf_is] at hb
        cases e1 : PatWords.classOf d with
        | some l =>
          rw [e1] at hb
          simp only [Bool.and_eq_true, Bool.not_eq_true', beq_iff_eq] at hb
          rw [if_neg (by rw [hb.2.1]; exact Bool.false_ne_true)]
        | none =>
          rw [e1] at hb
          cases e2 : PatWords.escapedOf d with
          | some x =>
            rw [e2] at hb
            simp only [Bool.and_eq_true, Bool.not_eq_true', beq_iff_eq] at hb
            rw [if_pos hb.2.1]
            unfold escL
            rw [if_neg (by rw [hb.2.2.2.1]; exact Bool.false_ne_true), hb.2.2.2.2.1]
          | none =>
            rw [e2] at hb
            simp only [Bool.and_eq_true, Bool.not_eq_true', beq_iff_eq] at hb
            rw [if_neg (by rw [hb.2.1]; exact Bool.false_ne_true)]
    · rw [if_neg h92, if_neg h92, set_signs]
      by_cases hs : PatWords.setSigns.contains c = true
      · rw [if_pos hs, if_pos hs]
      · rw [if_neg hs, if_neg hs]
        cases valueP p (c :: g.drop (p + 1)) with
        | error e => rfl
        | ok y => rfl
theorem oneE_ok {z : Str} {g : List UInt8} {p q : Nat} {x : List (Nat × Nat)} (h : oneE z g p = .ok (x, q)) : p < q ∧ q ≤ g.length := by
  unfold oneE at h
  cases hc : g[p]? with
  | none => rw [hc] at h; cases h
  | some c =>
    rw [hc] at h
    dsimp only at h
    split at h
    · cases hd : g[p + 1]? with
      | none => rw [hd] at h; cases h
      | some d =>
        rw [hd] at h
        dsimp only at h
        split at h
        · cases h
          have := (List.getElem?_eq_some_iff.mp hd).1
          omega
        · cases h
    · split at h
      · cases h
      · cases e : valueP p (g.drop p) with
        | error x => rw [e] at h; cases h
        | ok y =>
          obtain ⟨v, r, q'⟩ := y
          rw [e] at h
          cases h
          obtain ⟨h1, h2, _⟩ := valueP_drop e
          exact ⟨h1, h2⟩
theorem oneP_drop {g : List UInt8} {p q : Nat} {x} {r : List UInt8} (h : oneP p (g.drop p) = .ok (x, r, q)) : r = g.drop q := by
  unfold oneP at h
  cases hc : g[p]? with
  | none => rw [drop_none hc] at h; cases h
  | some c =>
    rw [drop_cons hc] at h
    dsimp only at h
    split at h
    · cases hd : g[p + 1]? with
      | none => rw [drop_none hd] at h; cases h
      | some d =>
        rw [drop_cons hd] at h
        dsimp only at h
        split at h
        · cases h; rfl
        · split at h
          · cases h; rfl
          · cases h
    · split at h
      · cases h
      · rw [← drop_cons hc] at h
        cases e : valueP p (g.drop p) with
        | error x => rw [e] at h; cases h
        | ok y =>
          obtain ⟨v, r', q'⟩ := y
          rw [e] at h
          cases h
          exact (valueP_drop e).2.2
/-- a part of a set: its ranges, where it ends -/
def partE (g : List UInt8) (p : Nat) : Except Fault (List (Nat × Nat) × Nat) := match oneE zPart g p with
  | .error e => .error e
  | .ok (l, q) => if isJust l = true ∧ isAt g q "-" = true then (match oneE zEnd g (q + 1) with
      | .error e => .error e
      | .ok (m, k) => if (m.head?.getD (0, 0)).2 < (l.head?.getD (0, 0)).1 then .error ⟨6, p⟩ else .ok ([((l.head?.getD (0, 0)).1, (m.head?.getD (0, 0)).2)], k)) else .ok (l, q)
theorem isAt_none {g : List UInt8} {p : Nat} {z : Str} (h : g[p]? = none) : isAt g p z = false := by unfold isAt; rw [h]
theorem isAt_some {g : List UInt8} {p : Nat} {z : Str} {c : UInt8} (h : g[p]? = some c) : isAt g p z = (cds z).contains c.toNat := by unfold isAt; rw [h]
theorem u8_eq {c : UInt8} {n : Nat} (hn : n < 256) : c.toNat = n ↔ c = UInt8.ofNat n := by
  constructor
  · intro h
    rw [← h]
    exact UInt8.ofNat_toNat.symm
  · intro h
    rw [h, UInt8.toNat_ofNat']
    omega
theorem at_dash {c : UInt8} : (cds "-").contains c.toNat = decide (c = 45) := by
  have := u8_all (p := fun c => (cds "-").contains c.toNat == decide (c = 45)) (by decide +kernel) c
  exact beq_iff_eq.mp this
theorem at_close {c : UInt8} : (cds "]").contains c.toNat = decide (c = 93) := by
  have := u8_all (p := fun c => (cds "]").contains c.toNat == decide (c = 93)) (by decide +kernel) c
  exact beq_iff_eq.mp this
theorem parts_part {f : Nat} {s : Bool} {acc : List (Nat × Nat)} {g : List UInt8} {p : Nat} (h : ∀ c, g[p]? = some c → c ≠ 93) :
    match partE g p with
    | .error e => partsP (f + 1) s acc p (g.drop p) = .error e
    | .ok (l, q) => ∃ l', SameR l l' ∧ partsP (f + 1) s acc p (g.drop p) = partsP f true (acc ++ l') q (g.drop q) := by
  have hpart := oneE_part g p
  unfold partE
  cases hc : g[p]? with
  | none =>
    rw [drop_none hc] at hpart ⊢
    have hpart : oneE zPart g p = .error ⟨1, p⟩ := hpart
    rw [hpart]
    rfl
  | some c =>
    have h93 := h c hc
    rw [drop_cons hc]
    rw [partsP]
    simp only [h93, if_false]
    rw [← drop_cons hc]
    cases e : oneP p (g.drop p) with
    | error x =>
      rw [e] at hpart
      have hpart : oneE zPart g p = .error x := hpart
      rw [hpart]
      rfl
    | ok y =>
      obtain ⟨x, r, q⟩ := y
      have hr := oneP_drop e
      subst hr
      rw [e] at hpart
      simp only [bind, Except.bind]
      cases x with
      | inr l =>
        obtain ⟨l', h1, h2, h3⟩ := hpart
        rw [h1]
        dsimp only
        rw [if_neg (by rw [h3]; exact fun x => Bool.false_ne_true x.1)]
        exact ⟨l, h2, rfl⟩
      | inl lo =>
        have hpart : oneE zPart g p = .ok ([(lo, lo)], q) := hpart
        rw [hpart]
        dsimp only
        have hj : isJust [(lo, lo)] = true := decide_eq_true rfl
        cases hd : g[q]? with
        | none =>
          rw [isAt_none hd, if_neg (fun x => Bool.false_ne_true x.2), drop_none hd]
          refine ⟨[(lo, lo)], fun _ => rfl, ?_⟩
          rw [drop_none hd]
          cases f <;> rfl
        | some d =>
          rw [isAt_some hd, at_dash, drop_cons hd]
          dsimp only
          by_cases h45 : d = 45
          · rw [if_pos ⟨hj, decide_eq_true h45⟩, if_pos h45, oneE_end]
            cases e2 : oneP (q + 1) (g.drop (q + 1)) with
            | error x => rfl
            | ok y2 =>
              obtain ⟨y, v, k⟩ := y2
              have hv := oneP_drop e2
              subst hv
              cases y with
              | inr l => rfl
              | inl hi =>
                dsimp only
                have e3 : ([(hi, hi)].head?.getD (0, 0)).2 = hi := rfl
                have e4 : ([(lo, lo)].head?.getD (0, 0)).1 = lo := rfl
                rw [e3, e4]
                by_cases hlt : hi < lo
                · rw [if_pos hlt, if_pos hlt]
                · rw [if_neg hlt, if_neg hlt]
                  exact ⟨[(lo, hi)], fun _ => rfl, rfl⟩
          · rw [if_neg (fun x => h45 (of_decide_eq_true x.2)), if_neg h45]
            exact ⟨[(lo, lo)], fun _ => rfl, by rw [drop_cons hd]⟩
theorem partE_ok {g : List UInt8} {p q : Nat} {l : List (Nat × Nat)} (h : partE g p = .ok (l, q)) : p < q ∧ q ≤ g.length := by
  unfold partE at h
  cases e : oneE zPart g p with
  | error x => rw [e] at h; cases h
  | ok y =>
    obtain ⟨x, q'⟩ := y
    obtain ⟨h1, h2⟩ := oneE_ok e
    rw [e] at h
    dsimp only at h
    split at h
    · cases e2 : oneE zEnd g (q' + 1) with
      | error x => rw [e2] at h; cases h
      | ok y2 =>
        obtain ⟨x2, k⟩ := y2
        obtain ⟨h3, h4⟩ := oneE_ok e2
        rw [e2] at h
        dsimp only at h
        split at h
        · cases h
        · cases h; exact ⟨by omega, h4⟩
    · cases h; exact ⟨h1, h2⟩
/-- ranges have something -/
theorem escL_ne (d : UInt8) : escL d.toNat ≠ [] := by
  have := u8_all (p := fun c => (escL c.toNat).isEmpty == false) (by decide +kernel) d
  intro h
  rw [h] at this
  cases this
theorem oneE_ne {z : Str} {g : List UInt8} {p q : Nat} {l : List (Nat × Nat)} (h : oneE z g p = .ok (l, q)) : l ≠ [] := by
  unfold oneE at h
  cases hc : g[p]? with
  | none => rw [hc] at h; cases h
  | some c =>
    rw [hc] at h
    dsimp only at h
    split at h
    · cases hd : g[p + 1]? with
      | none => rw [hd] at h; cases h
      | some d =>
        rw [hd] at h
        dsimp only at h
        split at h
        · cases h
          exact escL_ne d
        · cases h
    · split at h
      · cases h
      · cases e : valueP p (g.drop p) with
        | error x => rw [e] at h; cases h
        | ok y =>
          obtain ⟨v, r, q'⟩ := y
          rw [e] at h
          cases h
          exact fun x => nomatch x
end Pat
end

section
namespace Pat
open PySem PySem.Spec PyProof.Rows L2
open PySem.FaultX (FaultTxt)
open PatUtf (Fault)
open PatWords (valueP oneP partsP)
/-- a def of the module and its promise -/
def GOk (P : Program) (w : World) (K : PySem.W.Frag) (mg : Str → Option Value) (base : Heap) (CX : CXT) (k : Nat) (x : Str) (ps : List Str) (sp : Sp) : Prop :=
  ∃ f fd, mg x = some (.ref f) ∧ PySem.W.keepIn K (.ref f) = true ∧ Binds K fd ps [] ∧ FnOk P w K mg base CX k f fd ps sp
/-! ### ranges in the heap -/
def Tups (K : PySem.W.Frag) (H : Hp) : List Addr → List (Nat × Nat) → Prop
  | [], [] => True
  | t :: ts, r :: l => SqT K H t [.int (r.1 : Nat), .int (r.2 : Nat)] ∧ Tups K H ts l
  | _, _ => False
theorem Tups.map {K : PySem.W.Frag} {H H' : Hp} (k : ∀ t xs, SqT K H t xs → SqT K H' t xs) : ∀ {ts : List Addr} {l : List (Nat × Nat)}, Tups K H ts l → Tups K H' ts l
  | [], [], _ => trivial
  | [], _ :: _, h => h.elim
  | _ :: _, [], h => h.elim
  | t :: ts, n :: ns, ⟨h1, h2⟩ => ⟨k _ _ h1, Tups.map k h2⟩
theorem Tups.len {K : PySem.W.Frag} {H : Hp} : ∀ {ts : List Addr} {l : List (Nat × Nat)}, Tups K H ts l → ts.length = l.length
  | [], [], _ => rfl
  | [], _ :: _, h => h.elim
  | _ :: _, [], h => h.elim
  | t :: ts, n :: ns, ⟨h1, h2⟩ => congrArg (· + 1) (Tups.len h2)
theorem Tups.app {K : PySem.W.Frag} {H : Hp} : ∀ {ts us : List Addr} {l m : List (Nat × Nat)}, Tups K H ts l → Tups K H us m → Tups K H (ts ++ us) (l ++ m)
  | [], _, [], _, _, h => h
  | [], _, _ :: _, _, h, _ => h.elim
  | _ :: _, _, [], _, h, _ => h.elim
  | t :: ts, us, n :: ns, m, ⟨h1, h2⟩, h3 => ⟨h1, Tups.app h2 h3⟩
theorem Tups.get {K : PySem.W.Frag} {H : Hp} : ∀ {ts : List Addr} {l : List (Nat × Nat)} {i : Nat} {r : Nat × Nat}, Tups K H ts l → l[i]? = some r → ∃ t, ts[i]? = some t ∧ SqT K H t [.int (r.1 : Nat), .int (r.2 : Nat)]
  | [], [], _, _, _, e => nomatch e
  | [], _ :: _, _, _, h, _ => h.elim
  | _ :: _, [], _, _, h, _ => h.elim
  | t :: ts, n :: ns, 0, u, ⟨h1, h2⟩, e => by
    cases e
    exact ⟨t, rfl, h1⟩
  | t :: ts, n :: ns, i + 1, u, ⟨h1, h2⟩, e => Tups.get (ts := ts) (l := ns) (i := i) h2 e
/-- a list of ranges at ar -/
def RgAt (K : PySem.W.Frag) (H : Hp) (ar : Addr) (l : List (Nat × Nat)) : Prop := ∃ ts : List Addr, H ar = some (.lst (ts.map V.ref)) ∧ Tups K H ts l
/-- a new list of ranges -/
def RgNew (K : PySem.W.Frag) (H H' : Hp) (v : V) (l : List (Nat × Nat)) : Prop := ∃ ar, v = .ref ar ∧ H ar = none ∧ RgAt K H' ar l
theorem sqt_same' {K : PySem.W.Frag} {H H' : Hp} {t : Addr} {xs : List V} (h : SqT K H t xs) (s : Same H H') : SqT K H' t xs := by
  rcases h with (h | ⟨o, h⟩) | h
  · exact .inl (.inl (s _ _ h))
  · exact .inl (.inr ⟨o, s _ _ h⟩)
  · exact .inr h
theorem none_same {H H' : Hp} {x : Addr} (s : Same H H') (h : H' x = none) : H x = none := by
  cases e : H x with
  | none => rfl
  | some o => rw [s _ _ e] at h; cases h
theorem none_kept {H H' : Hp} {x a : Addr} {o : HO} (k : Kept H H' a) (ha : H' a = some o) (h : H' x = none) : H x = none := by
  cases e : H x with
  | none => rfl
  | some u =>
    have n : x ≠ a := fun y => by rw [y, ha] at h; cases h
    rw [k _ _ e n] at h
    cases h
theorem RgAt.same {K : PySem.W.Frag} {H H' : Hp} {ar : Addr} {l : List (Nat × Nat)} (h : RgAt K H ar l) (s : Same H H') : RgAt K H' ar l := by
  obtain ⟨ts, h1, h2⟩ := h
  exact ⟨ts, s _ _ h1, Tups.map (fun t xs e => sqt_same' e s) h2⟩
/-- the promise of a def that gives new ranges and changes nothing -/
def GivesR (K : PySem.W.Frag) (H : Hp) (Q : VK) (l : List (Nat × Nat)) : Prop := ∀ H' v, Same H H' → RgNew K H H' v l → Q v H'
section
variable {P : Program} {w : World} {K : PySem.W.Frag} {mg : Str → Option Value} {base : Heap} {C CF fI : Addr} {H : Hp} {Q : VK} {E : XK}
/-! ### just_one -/
abbrev sJust : Stmt := top i_just_one
@[irreducible] def spJust (K : PySem.W.Frag) : Sp := fun vs H Q _ => ∃ v : Nat, vs = [.int (v : Nat)] ∧ GivesR K H Q [(v, v)]
theorem just_use {v : Nat} (h : GivesR K H Q [(v, v)]) : spJust K [.int (v : Nat)] H Q E := by
  unfold spJust
  exact ⟨v, rfl, h⟩
theorem scJust : FnScope ["value"] ["value"] (defScope sJust) := ⟨rfl, rfl, rfl, by decide +kernel, rfl, by decide +kernel, by decide +kernel⟩
theorem ok_just {f : Addr} {fd : FuncData} (F : Fun K "just_one" "just_one" sJust f fd) : FnOk P w K mg base CX0 2 f fd ["value"] (spJust K) := by
  refine F.ok scJust (fun vs H Q E h => ?_) (fun cdv A outer s H vs Q E hr h => ⟨_, pss_one (ps_ret (pe_lst (pa_cons (pe_tup (pa_cons (pv 0) (pa_cons (pv 0) pa_nil))) pa_nil))), ?_⟩)
  · unfold spJust at h
    obtain ⟨_, rfl, _⟩ := h
    rfl
  unfold spJust at h
  obtain ⟨v, rfl, hQ⟩ := h
  refine ⟨_, rfl, _, rfl, by show 2 ≤ sizeLine; decide, fun t ht => ⟨by show 1 ≤ sizeLine; decide, fun ar har => ?_⟩⟩
  have htn : ar ≠ t := fun e => by rw [e, upd_same] at har; cases har
  have har0 : H ar = none := by rw [upd_ne htn] at har; exact har
  refine hQ _ _ ((Same.upd ht).trans (Same.upd har)) ⟨ar, rfl, har0, [t], upd_same, ?_, trivial⟩
  exact SqT.of ((upd_ne htn.symm).trans upd_same)
/-! ### is_just_one -/
abbrev sIsJ : Stmt := top i_is_just_one
@[irreducible] def spIsJ (K : PySem.W.Frag) : Sp := fun vs H Q _ => ∃ (ar : Addr) (l : List (Nat × Nat)), vs = [.ref ar] ∧ RgAt K H ar l ∧ l ≠ [] ∧ Q (.bl (isJust l)) H
theorem isj_use {ar : Addr} {l : List (Nat × Nat)} (h : RgAt K H ar l) (hl : l ≠ []) (q : Q (.bl (isJust l)) H) : spIsJ K [.ref ar] H Q E := by
  unfold spIsJ
  exact ⟨ar, l, rfl, h, hl, q⟩
theorem scIsJ : FnScope ["ranges"] ["ranges"] (defScope sIsJ) := ⟨rfl, rfl, rfl, by decide +kernel, rfl, by decide +kernel, by decide +kernel⟩
theorem RgAt.first {ar : Addr} {l : List (Nat × Nat)} (h : RgAt K H ar l) (hl : l ≠ []) : ∃ (ts : List Addr) (t : Addr), SqL K H ar (ts.map V.ref) ∧ atI (ts.map V.ref) (0 : Int) = some (V.ref t) ∧ SqT K H t [.int ((l.head?.getD (0, 0)).1 : Nat), .int ((l.head?.getD (0, 0)).2 : Nat)] := by
  obtain ⟨ts, h1, h2⟩ := h
  cases l with
  | nil => exact absurd rfl hl
  | cons r l =>
    cases ts with
    | nil => exact h2.elim
    | cons t ts => exact ⟨t :: ts, t, SqL.of h1, atI_nat (j := 0) rfl, h2.1⟩
theorem RgAt.last {ar : Addr} {l : List (Nat × Nat)} (h : RgAt K H ar l) (hl : l ≠ []) : ∃ (ts : List Addr) (t : Addr), SqL K H ar (ts.map V.ref) ∧ atI (ts.map V.ref) (-1 : Int) = some (V.ref t) ∧ SqT K H t [.int ((l.getLast?.getD (0, 0)).1 : Nat), .int ((l.getLast?.getD (0, 0)).2 : Nat)] := by
  obtain ⟨ts, h1, h2⟩ := h
  have hll : l = l.dropLast ++ [l.getLast hl] := (List.dropLast_concat_getLast hl).symm
  have hne : ts ≠ [] := fun e => by
    have := h2.len
    rw [e] at this
    cases l with
    | nil => exact hl rfl
    | cons _ _ => cases this
  have htt : ts = ts.dropLast ++ [ts.getLast hne] := (List.dropLast_concat_getLast hne).symm
  have hi : l[l.length - 1]? = some (l.getLast hl) := by
    rw [← List.getLast?_eq_getElem?, List.getLast?_eq_some_getLast hl]
  obtain ⟨t, ht, hs⟩ := h2.get hi
  refine ⟨ts, t, SqL.of h1, ?_, ?_⟩
  · have e : ts.getLast hne = t := by
      have : ts[ts.length - 1]? = some (ts.getLast hne) := by rw [← List.getLast?_eq_getElem?, List.getLast?_eq_some_getLast hne]
      rw [h2.len] at this
      rw [this] at ht
      exact Option.some.inj ht
    rw [htt, e, List.map_append]
    exact atI_last _ _
  · rw [List.getLast?_eq_some_getLast hl]
    exact hs
theorem ok_isj {f : Addr} {fd : FuncData} (F : Fun K "is_just_one" "is_just_one" sIsJ f fd) : FnOk P w K mg base CX0 2 f fd ["ranges"] (spIsJ K) := by
  refine F.ok scIsJ (fun vs H Q E h => ?_) (fun cdv A outer s H vs Q E hr h => ⟨_, pss_one (ps_ret (pe_cmpR op_eq (pe_ix ix_tup (pe_ix ix_list (pv 0) pe_int (fun _ _ => rfl)) pe_int (fun _ _ => rfl)) (pe_ix ix_tup (pe_ix ix_list (pv 0) (pe_un un_neg pe_int) (fun _ _ => rfl)) pe_int (fun _ _ => rfl)) (nomark _))), ?_⟩)
  · unfold spIsJ at h
    obtain ⟨_, _, rfl, _⟩ := h
    rfl
  unfold spIsJ at h
  obtain ⟨ar, l, rfl, h, hl, hQ⟩ := h
  obtain ⟨ts, t, a1, a2, a3⟩ := h.first hl
  obtain ⟨us, u, b1, b2, b3⟩ := h.last hl
  refine ⟨_, rfl, ar, _, _, _, rfl, rfl, a1, a2, t, _, _, _, rfl, rfl, a3, rfl, ?_⟩
  refine ⟨_, rfl, _, rfl, ar, _, _, _, rfl, rfl, b1, b2, u, _, _, _, rfl, rfl, b3, rfl, rfl, ?_⟩
  have e : decide (V.int ((l.head?.getD (0, 0)).1 : Nat) = V.int ((l.getLast?.getD (0, 0)).2 : Nat)) = isJust l := by
    unfold isJust
    cases e1 : l.head? with
    | none => exact absurd (List.head?_eq_none_iff.mp e1) hl
    | some x =>
      cases e2 : l.getLast? with
      | none => exact absurd (List.getLast?_eq_none_iff.mp e2) hl
      | some y =>
        by_cases c : x.1 = y.2
        · exact (decide_eq_true (congrArg (fun n : Nat => V.int (n : Nat)) c)).trans (decide_eq_true c).symm
        · exact (decide_eq_false fun h => c (by injection h with h; exact Int.ofNat.inj h)).trans (decide_eq_false c).symm
  rw [e]
  exact hQ
/-! ### every_value -/
abbrev sEvery : Stmt := top i_every_value
@[irreducible] def spEvery (K : PySem.W.Frag) : Sp := fun vs H Q _ => vs = [] ∧ GivesR K H Q [(0, 1114111)]
theorem every_use (h : GivesR K H Q [(0, 1114111)]) : spEvery K [] H Q E := by
  unfold spEvery
  exact ⟨rfl, h⟩
theorem scEvery : FnScope [] [] (defScope sEvery) := ⟨rfl, rfl, rfl, by decide +kernel, rfl, by decide +kernel, by decide +kernel⟩
theorem ok_every {f : Addr} {fd : FuncData} (F : Fun K "every_value" "every_value" sEvery f fd) (hG : ∃ t, mg "GREATEST" = some (.int 1114111 t)) : FnOk P w K mg base CX0 2 f fd [] (spEvery K) := by
  refine F.ok scEvery (fun vs H Q E h => ?_) (fun cdv A outer s H vs Q E hr h => ⟨_, pss_one (ps_ret (pe_lst (pa_cons (pe_tup (pa_cons pe_int (pa_cons (pe_gi hG) pa_nil))) pa_nil))), ?_⟩)
  · unfold spEvery at h
    obtain ⟨rfl, _⟩ := h
    rfl
  unfold spEvery at h
  obtain ⟨rfl, hQ⟩ := h
  refine ⟨by show 2 ≤ sizeLine; decide, fun t ht => ⟨by show 1 ≤ sizeLine; decide, fun ar har => ?_⟩⟩
  have htn : ar ≠ t := fun e => by rw [e, upd_same] at har; cases har
  have har0 : H ar = none := by rw [upd_ne htn] at har; exact har
  refine hQ _ _ ((Same.upd ht).trans (Same.upd har)) ⟨ar, rfl, har0, [t], upd_same, ?_, trivial⟩
  exact SqT.of ((upd_ne htn.symm).trans upd_same)
end
end Pat
end

section
namespace Pat
open PySem PySem.Spec PyProof.Rows L2
open PySem.FaultX (FaultTxt)
open PatUtf (Fault)
open PatWords (valueP oneP partsP)
theorem Same.upd' {H H1 : Hp} {x : Addr} {o : HO} (s : Same H H1) (h : H x = none) : Same H (L2.upd H1 x o) := fun b u e => by
  rw [upd_ne (ne_of_none e h)]
  exact s b u e
/-! ### all_but -/
def abStep (x : List (Nat × Nat) × Nat) (r : Nat × Nat) : List (Nat × Nat) × Nat := (if x.2 < r.1 then x.1 ++ [(x.2, r.1 - 1)] else x.1, r.2 + 1)
def abGo (l : List (Nat × Nat)) : List (Nat × Nat) × Nat := l.foldl abStep ([], 0)
def abL (l : List (Nat × Nat)) : List (Nat × Nat) := (abGo l).1 ++ [((abGo l).2, 1114111)]
theorem abGo_len (l : List (Nat × Nat)) : (abGo l).1.length ≤ l.length := by
  have key : ∀ (m : List (Nat × Nat)) (x : List (Nat × Nat) × Nat), (m.foldl abStep x).1.length ≤ x.1.length + m.length := by
    intro m
    induction m with
    | nil => intro x; exact Nat.le_refl _
    | cons r m ih =>
      intro x
      rw [List.foldl_cons]
      have := ih (abStep x r)
      have h2 : (abStep x r).1.length ≤ x.1.length + 1 := by
        unfold abStep
        dsimp only
        split
        · rw [List.length_append]; exact Nat.le_refl _
        · omega
      rw [List.length_cons]
      omega
  have := key l ([], 0)
  simpa [abGo] using this
/-- a written tuple of ranges -/
def KRg (K : PySem.W.Frag) (tt : Addr) (l : List (Nat × Nat)) : Prop := ∃ ts : List Addr, ∀ H, SqT K H tt (ts.map V.ref) ∧ Tups K H ts l
section
variable {P : Program} {w : World} {K : PySem.W.Frag} {mg : Str → Option Value} {base : Heap} {C CF fI : Addr} {H : Hp} {Q : VK} {E : XK}
abbrev sAllBut : Stmt := top i_all_but
@[irreducible] def spAllBut (K : PySem.W.Frag) : Sp := fun vs H Q _ => ∃ (tt : Addr) (l : List (Nat × Nat)), vs = [.ref tt] ∧ KRg K tt l ∧ l.length ≤ 100 ∧ GivesR K H Q (abL l)
theorem allbut_use {tt : Addr} {l : List (Nat × Nat)} (h : KRg K tt l) (hl : l.length ≤ 100) (q : GivesR K H Q (abL l)) : spAllBut K [.ref tt] H Q E := by
  unfold spAllBut
  exact ⟨tt, l, rfl, h, hl, q⟩
theorem scAllBut : FnScope ["ranges", "others", "first", "lowest", "highest"] ["ranges"] (defScope sAllBut) := ⟨rfl, rfl, rfl, by decide +kernel, rfl, by decide +kernel, by decide +kernel⟩
theorem tups_upd {H : Hp} {ts : List Addr} {l : List (Nat × Nat)} {x : Addr} {ys zs : List V} (h : Tups K H ts l) (e : H x = some (.lst ys)) : Tups K (upd H x (.lst zs)) ts l :=
  Tups.map (fun t xs hs => by
    rcases hs with (h | ⟨o, h⟩) | h
    · exact .inl (.inl ((upd_ne (ne_of h e (by intro z; cases z))).trans h))
    · exact .inl (.inr ⟨o, (upd_ne (ne_of h e (by intro z; cases z))).trans h⟩)
    · exact .inr h) h
theorem ok_allbut {f : Addr} {fd : FuncData} (F : Fun K "all_but" "all_but" sAllBut f fd) (hG : ∃ t, mg "GREATEST" = some (.int 1114111 t)) : FnOk P w K mg base CX0 2 f fd ["ranges"] (spAllBut K) := by
  refine F.ok scAllBut (fun vs H Q E h => ?_) (fun cdv A outer s H vs Q E hr h => ⟨_, pss_cons (ps_set (i := 1) scAllBut.nd rfl (.inl rfl) (pe_lst pa_nil))
      (pss_cons (ps_set (i := 2) scAllBut.nd rfl (.inl rfl) pe_int)
      (pss_cons (ps_for PassesOwn.never rfl (pi_tup (pv 0)) (pg_tup (by rfl) (pgs_cons (pg_name (i := 3) scAllBut.nd rfl (.inl rfl)) (pgs_cons (pg_name (i := 4) scAllBut.nd rfl (.inl rfl)) pgs_nil)))
        (pss_cons (ps_if (pt_cmpR op_lt (pv 2) (pv 3) (nomark _)) (pss_one (ps_expr (pe_bm PySem.F.plainAttrs_list PySem.F.slot_list_append PySem.F.type_list_append mt_append (pv 1) (pa_cons (pe_tup (pa_cons (pv 2) (pa_cons (pe_op op_sub (pv 3) pe_int) pa_nil))) pa_nil)))) pss_nil)
        (pss_one (ps_set (i := 2) scAllBut.nd rfl (.inl rfl) (pe_op op_add (pv 4) pe_int)))))
      (pss_cons (ps_expr (pe_bm PySem.F.plainAttrs_list PySem.F.slot_list_append PySem.F.type_list_append mt_append (pv 1) (pa_cons (pe_tup (pa_cons (pv 2) (pa_cons (pe_gi hG) pa_nil))) pa_nil)))
      (pss_one (ps_ret (pv 1)))))), ?_⟩)
  · unfold spAllBut at h
    obtain ⟨_, _, rfl, _⟩ := h
    rfl
  unfold spAllBut at h
  obtain ⟨tt, l, rfl, ⟨ts, hK⟩, hl, hQ⟩ := h
  have hlen : ts.length = l.length := (hK H).2.len
  refine ⟨by show 0 ≤ sizeLine; decide, fun o ho => ?_⟩
  refine ⟨_, rfl, tt, rfl, ⟨_, (hK _).1⟩, for_tup (xs := ts.map V.ref) (fun i σ H' => ∃ us : List Addr, (∃ v3 v4, σ = [some (.ref tt), some (.ref o), some (.int (((abGo (l.take i)).2 : Nat) : Int)), v3, v4]) ∧ Same H H' ∧ H' o = some (.lst (us.map V.ref)) ∧ Tups K H' us (abGo (l.take i)).1) ?_ (fun _ _ _ _ _ => (hK _).1) ?_ ?_⟩
  · exact ⟨[], ⟨_, _, rfl⟩, Same.upd ho, upd_same, trivial⟩
  · rintro i x σ H1 hx ⟨us, ⟨v3, v4, rfl⟩, s1, e1, t1⟩
    rw [List.getElem?_map] at hx
    cases et : ts[i]? with
    | none => rw [et] at hx; cases hx
    | some t =>
      rw [et] at hx
      cases hx
      have hil : i < l.length := by rw [← hlen]; exact (List.getElem?_eq_some_iff.mp et).1
      have er : l[i]? = some l[i] := List.getElem?_eq_getElem hil
      obtain ⟨t', ht', st⟩ := (hK H1).2.get er
      rw [et] at ht'
      cases ht'
      have e2 : l.take (i + 1) = l.take i ++ [l[i]] := by rw [List.take_add_one, er]; rfl
      have e3 : abGo (l.take (i + 1)) = abStep (abGo (l.take i)) l[i] := by
        rw [e2]
        unfold abGo
        rw [List.foldl_append]
        rfl
      have hul : us.length ≤ 100 := by
        rw [t1.len]
        have := abGo_len (l.take i)
        rw [List.length_take] at this
        omega
      refine ⟨t, _, rfl, st, rfl, _, _, rfl, _, _, rfl, rfl, ?_⟩
      refine ⟨_, rfl, _, rfl, _, _, rfl, rfl, _, rfl, ?_⟩
      by_cases c : (abGo (l.take i)).2 < l[i].1
      · refine if_true_of (decide_eq_true (by omega)) ?_
        refine ⟨_, rfl, .inl ⟨rfl, _, SqL.of e1⟩, _, rfl, _, rfl, _, _, rfl, rfl, by show 2 ≤ sizeLine; decide, fun u hu => ?_⟩
        have huo : o ≠ u := fun e => by rw [← e, e1] at hu; cases hu
        refine ⟨o, _, _, rfl, rfl, (upd_ne huo).trans e1, small1000 (by rw [List.length_map]; omega), ?_⟩
        refine ⟨_, rfl, _, _, rfl, rfl, ?_⟩
        refine ⟨us ++ [u], ?_, ?_, ?_, ?_⟩
        · rw [e3]
          exact ⟨_, _, rfl⟩
        · exact Same.upd' (s1.trans (Same.upd hu)) ho
        · rw [upd_same, List.map_append]
          rfl
        · rw [e3]
          unfold abStep
          rw [if_pos c]
          refine Tups.app (tups_upd (Tups.map (fun _ _ h => sqt_same' h (Same.upd hu)) t1) ((upd_ne huo).trans e1)) ⟨?_, trivial⟩
          exact SqT.of ((upd_ne huo.symm).trans (upd_same.trans (by rw [Int.ofNat_sub (by omega)]; rfl)))
      · refine if_false_of (decide_eq_false (by omega)) ?_
        refine ⟨_, rfl, _, _, rfl, rfl, ?_⟩
        refine ⟨us, ?_, s1, e1, ?_⟩
        · rw [e3]
          exact ⟨_, _, rfl⟩
        · rw [e3]
          unfold abStep
          rw [if_neg c]
          exact t1
  · rintro σ H1 ⟨us, ⟨v3, v4, rfl⟩, s1, e1, t1⟩
    have etk : l.take (ts.map V.ref).length = l := List.take_of_length_le (by rw [List.length_map]; omega)
    rw [etk] at t1
    have hul : us.length ≤ 100 := by
      rw [t1.len]
      have := abGo_len l
      omega
    rw [etk]
    refine ⟨_, rfl, .inl ⟨rfl, _, SqL.of e1⟩, _, rfl, by show 2 ≤ sizeLine; decide, fun u hu => ?_⟩
    have huo : o ≠ u := fun e => by rw [← e, e1] at hu; cases hu
    refine ⟨o, _, _, rfl, rfl, (upd_ne huo).trans e1, small1000 (by rw [List.length_map]; omega), ?_⟩
    refine ⟨_, rfl, ?_⟩
    refine hQ _ _ (Same.upd' (s1.trans (Same.upd hu)) ho) ⟨o, rfl, ho, us ++ [u], ?_, ?_⟩
    · rw [upd_same, List.map_append]
      rfl
    · exact Tups.app (tups_upd (Tups.map (fun _ _ h => sqt_same' h (Same.upd hu)) t1) ((upd_ne huo).trans e1)) ⟨SqT.of ((upd_ne huo.symm).trans upd_same), trivial⟩
/-! ### listed_ranges -/
abbrev sListed : Stmt := top i_listed_ranges
/-- what the top has written of the three lists -/
structure TxL (w : World) (K : PySem.W.Frag) (mg : Str → Option Value) (d : Addr) (es : Array DictEntry) (n : Nat) (t1 t2 t3 : Addr) : Prop where
  at_ : mg "LISTED_RANGES" = some (.ref d)
  dic : KDict K w d es n
  e1 : PySem.W.nsIn K d (sg 100) = some (some (.ref t1))
  e2 : PySem.W.nsIn K d (sg 119) = some (some (.ref t2))
  e3 : PySem.W.nsIn K d (sg 115) = some (some (.ref t3))
  e4 : PySem.W.nsIn K d (sg 68) = some none
  e5 : PySem.W.nsIn K d (sg 87) = some none
  e6 : PySem.W.nsIn K d (sg 83) = some none
  r1 : KRg K t1 [(48, 57)]
  r2 : KRg K t2 [(48, 57), (65, 90), (95, 95), (97, 122)]
  r3 : KRg K t3 [(9, 13), (32, 32)]
  list : mg "list" = none
@[irreducible] def spListed (K : PySem.W.Frag) : Sp := fun vs H Q _ => ∃ c : Nat, vs = [.str (sg c)] ∧ c ∈ cds zCls ∧ GivesR K H Q (prgCls c)
theorem listed_use {c : Nat} (h : c ∈ cds zCls) (q : GivesR K H Q (prgCls c)) : spListed K [.str (sg c)] H Q E := by
  unfold spListed
  exact ⟨c, rfl, h, q⟩
theorem scListed : FnScope ["sign"] ["sign"] (defScope sListed) := ⟨rfl, rfl, rfl, by decide +kernel, rfl, by decide +kernel, by decide +kernel⟩
theorem ok_listed {f : Addr} {fd : FuncData} (F : Fun K "listed_ranges" "listed_ranges" sListed f fd) {d : Addr} {es : Array DictEntry} {n : Nat} {t1 t2 t3 : Addr} (T : TxL w K mg d es n t1 t2 t3) (G1 : GOk P w K mg base CX0 2 "all_but" ["ranges"] (spAllBut K)) :
    FnOk P w K mg base CX0 3 f fd ["sign"] (spListed K) := by
  obtain ⟨f1, fd1, gg1, k1, b1, G1⟩ := G1
  refine F.ok scListed (fun vs H Q E h => ?_) (fun cdv A outer s H vs Q E hr h => ⟨_, pss_cons (ps_if (pt_cmpR (op_in_kd T.dic) (pv 0) (pe_glob (v := .ref d) rfl T.at_ rfl) (by rfl))
        (pss_one (ps_ret (pe_callTy call_list_of (by rfl) T.list (by decide +kernel) (pa_cons (pe_ix ix_kdict (pe_glob (v := .ref d) rfl T.at_ rfl) (pv 0) (fun _ _ => rfl)) pa_nil)))) pss_nil)
      (pss_one (ps_ret (pe_call G1 hr rfl gg1 k1 b1 .nil pass0 (by exact (pa_cons (pe_ix ix_kdict (pe_glob (v := .ref d) rfl T.at_ rfl) (pe_lower (pv 0)) (fun _ _ => rfl)) pa_nil))))), ?_⟩)
  · unfold spListed at h
    obtain ⟨_, rfl, _⟩ := h
    rfl
  unfold spListed at h
  obtain ⟨c, rfl, hc, hQ⟩ := h
  -- one that is there
  have there : ∀ (tt : Addr), PySem.W.nsIn K d (sg c) = some (some (.ref tt)) → KRg K tt (prgCls c) → KDct K w d (sg c) (V.ref tt) ∧ ∃ ts : List Addr, (∀ H, SqT K H tt (ts.map V.ref)) ∧ ∀ H, Tups K H ts (prgCls c) := fun tt e ⟨ts, hK⟩ =>
    ⟨⟨es, n, .ref tt, T.dic.at_, T.dic.lit, e, rfl⟩, ts, fun H => (hK H).1, fun H => (hK H).2⟩
  have hcs : c = 100 ∨ c = 119 ∨ c = 115 ∨ c = 68 ∨ c = 87 ∨ c = 83 := by
    have e : cds zCls = [100, 119, 115, 68, 87, 83] := by decide +kernel
    rw [e] at hc
    simpa using hc
  refine ⟨_, rfl, ?_⟩
  rcases hcs with e | e | e | e | e | e
  · subst e
    obtain ⟨kd, ts, hs, ht⟩ := there _ T.e1 T.r1
    exact ⟨_, _, rfl, rfl, T.e1, _, rfl, if_true_of rfl ⟨_, rfl, d, _, _, rfl, rfl, kd, _, _, rfl, .inr (hs _), fun l hl => hQ _ _ (Same.upd hl) ⟨l, rfl, hl, ts, upd_same, ht _⟩⟩⟩
  · subst e
    obtain ⟨kd, ts, hs, ht⟩ := there _ T.e2 T.r2
    exact ⟨_, _, rfl, rfl, T.e2, _, rfl, if_true_of rfl ⟨_, rfl, d, _, _, rfl, rfl, kd, _, _, rfl, .inr (hs _), fun l hl => hQ _ _ (Same.upd hl) ⟨l, rfl, hl, ts, upd_same, ht _⟩⟩⟩
  · subst e
    obtain ⟨kd, ts, hs, ht⟩ := there _ T.e3 T.r3
    exact ⟨_, _, rfl, rfl, T.e3, _, rfl, if_true_of rfl ⟨_, rfl, d, _, _, rfl, rfl, kd, _, _, rfl, .inr (hs _), fun l hl => hQ _ _ (Same.upd hl) ⟨l, rfl, hl, ts, upd_same, ht _⟩⟩⟩
  · subst e
    have el : Txt.lower (sg 68) = sg 100 := by decide +kernel
    exact ⟨_, _, rfl, rfl, T.e4, _, rfl, if_false_of rfl ⟨_, rfl, ⟨_, rfl⟩, _, rfl, rfl, by decide +kernel, d, _, V.ref t1, rfl, rfl, ⟨es, n, .ref t1, T.dic.at_, T.dic.lit, by rw [el]; exact T.e1, rfl⟩, allbut_use T.r1 (by decide) hQ⟩⟩
  · subst e
    have el : Txt.lower (sg 87) = sg 119 := by decide +kernel
    exact ⟨_, _, rfl, rfl, T.e5, _, rfl, if_false_of rfl ⟨_, rfl, ⟨_, rfl⟩, _, rfl, rfl, by decide +kernel, d, _, V.ref t2, rfl, rfl, ⟨es, n, .ref t2, T.dic.at_, T.dic.lit, by rw [el]; exact T.e2, rfl⟩, allbut_use T.r2 (by decide) hQ⟩⟩
  · subst e
    have el : Txt.lower (sg 83) = sg 115 := by decide +kernel
    exact ⟨_, _, rfl, rfl, T.e6, _, rfl, if_false_of rfl ⟨_, rfl, ⟨_, rfl⟩, _, rfl, rfl, by decide +kernel, d, _, V.ref t3, rfl, rfl, ⟨es, n, .ref t3, T.dic.at_, T.dic.lit, by rw [el]; exact T.e3, rfl⟩, allbut_use T.r3 (by decide) hQ⟩⟩
end
end Pat
end

section
namespace Pat
open PySem PySem.Spec PyProof.Rows L2
open PySem.FaultX (FaultTxt)
open PatUtf (Fault)
open PatWords (valueP oneP partsP)
/-- the reader at a stands at p of g -/
def At (K : PySem.W.Frag) (C : Addr) (H : Hp) (a dx ag : Addr) (p : Nat) (an ab : Addr) (g : List UInt8) : Prop := RAt C H a dx ag p an ab ∧ SqL K H ag (gv g) ∧ p ≤ g.length ∧ g.length ≤ 1000
/-- a way out: a fault, or a value with the reader at another place and all else as it was -/
def Ret (C CF : Addr) (a dx ag an ab : Addr) (H : Hp) (Q : VK) (E : XK) (res : Except Fault (V × Nat)) : Prop := match res with
  | .error e => Out CF e E
  | .ok (v, q) => ∀ H', RAt C H' a dx ag q an ab → Kept H H' a → Q v H'
/-- a way out with new ranges -/
def RetR (K : PySem.W.Frag) (C CF : Addr) (a dx ag an ab : Addr) (H : Hp) (Q : VK) (E : XK) (res : Except Fault (List (Nat × Nat) × Nat)) : Prop := match res with
  | .error e => Out CF e E
  | .ok (l, q) => ∀ H' v, RAt C H' a dx ag q an ab → Kept H H' a → RgNew K H H' v l → Q v H'
def takeE (z : Str) (g : List UInt8) (p : Nat) : Except Fault (V × Nat) := match g[p]? with
  | none => .error ⟨1, p⟩
  | some c => if (cds z).contains c.toNat = true then .ok (.str (sg c.toNat), p + 1) else .error ⟨2, p⟩
section
variable {P : Program} {w : World} {K : PySem.W.Frag} {mg : Str → Option Value} {base : Heap} {C CF fI : Addr} {H H1 H2 : Hp} {a dx ag an ab : Addr} {p q : Nat} {g : List UInt8} {z : Str} {Q : VK} {E : XK}
theorem At.next (h : At K C H a dx ag p an ab g) (r : RAt C H1 a dx ag q an ab) (k : Kept H H1 a) (hq : q ≤ g.length) : At K C H1 a dx ag q an ab g := ⟨r, seq_kept h.2.1 h.1 k, hq, h.2.2.2⟩
theorem At.same (h : At K C H a dx ag p an ab g) (s : Same H H1) : At K C H1 a dx ag p an ab g := ⟨s _ _ h.1, s.seq h.2.1, h.2.2.1, h.2.2.2⟩
theorem take_use (h : At K C H a dx ag p an ab g) (r : Ret C CF a dx ag an ab H Q E (takeE z g p)) : spTake K C CF [.ref a, .str z] H Q E := by
  unfold spTake
  refine ⟨a, dx, ag, p, an, ab, g, z, rfl, h.1, h.2.1, h.2.2.1, ?_⟩
  unfold takeE at r
  cases e : g[p]? with
  | none => rw [e] at r; exact r
  | some c =>
    rw [e] at r
    dsimp only at r ⊢
    by_cases hc : (cds z).contains c.toNat = true
    · rw [if_pos hc] at r ⊢
      exact r
    · rw [if_neg hc] at r ⊢
      exact r
theorem at_use (h : At K C H a dx ag p an ab g) (hz : (cds z).length ≤ 1000) (r : ∀ H', Same H H' → Q (.bl (isAt g p z)) H') : spAt K C [.ref a, .str z] H Q E := by
  unfold spAt
  exact ⟨a, dx, ag, p, an, ab, g, z, rfl, h.1, h.2.1, h.2.2.1, hz, r⟩
theorem need_use (h : At K C H a dx ag p an ab g) (h1 : p = g.length → Out CF ⟨1, p⟩ E) (h2 : p < g.length → Q .non H) : spNeed K C CF [.ref a] H Q E :=
  need_pre h.1 h.2.1 h1 fun n => h2 (by have := h.2.2.1; omega)
theorem sa_use {ag : Addr} {p : Nat} (sq : SqL K H ag (gv g)) (hp : p < g.length) (hl : g.length ≤ 1000) (r : match valueP p (g.drop p) with
    | .error e => Out CF e E
    | .ok (v, _, q) => ∀ H' t, Same H H' → H t = none → H' t = some (.tup [.int (v : Nat), .int (q : Nat)]) → Q (.ref t) H') : spSA K CF [.ref ag, .int p] H Q E := by
  unfold spSA
  exact ⟨ag, p, g, rfl, sq, hp, hl, r⟩
theorem Ret.mono {res : Except Fault (V × Nat)} {H0 : Hp} (r : Ret C CF a dx ag an ab H0 Q E res) (k : Kept H0 H a) : Ret C CF a dx ag an ab H Q E res := by
  unfold Ret at r ⊢
  cases res with
  | error e => exact r
  | ok y => exact fun H' r' k' => r H' r' (k.trans k')
theorem RetR.mono {res : Except Fault (List (Nat × Nat) × Nat)} {H0 : Hp} {p0 : Nat} (r : RetR K C CF a dx ag an ab H0 Q E res) (k : Kept H0 H a) (ha : RAt C H a dx ag p0 an ab) : RetR K C CF a dx ag an ab H Q E res := by
  unfold RetR at r ⊢
  cases res with
  | error e => exact r
  | ok y => exact fun H' v r' k' ⟨ar, h1, h2, h3⟩ => r H' v r' (k.trans k') ⟨ar, h1, none_kept k ha h2, h3⟩
/-! ### take_plain -/
def plainE (z : Str) (g : List UInt8) (p : Nat) : Except Fault (List (Nat × Nat) × Nat) := match g[p]? with
  | none => .error ⟨1, p⟩
  | some c => if (cds z).contains c.toNat = true then .error ⟨2, p⟩ else match valueP p (g.drop p) with
    | .error e => .error e
    | .ok (v, _, q) => .ok ([(v, v)], q)
@[irreducible] def spPlain (K : PySem.W.Frag) (C CF : Addr) : Sp := fun vs H Q E => ∃ (a dx ag : Addr) (p : Nat) (an ab : Addr) (g : List UInt8) (z : Str), vs = [.ref a, .str z] ∧ At K C H a dx ag p an ab g ∧ (cds z).length ≤ 1000 ∧ RetR K C CF a dx ag an ab H Q E (plainE z g p)
theorem scPlain : FnScope ["self", "barred", "found"] ["self", "barred"] (defScope (sR 4)) := ⟨rfl, rfl, rfl, by decide +kernel, rfl, by decide +kernel, by decide +kernel⟩
theorem ok_plain {f : Addr} {fd : FuncData} (F : Fun K "take_plain" "Reader.take_plain" (sR 4) f fd) (T : Txt K mg C CF fI) (M1 : MOk P w K mg base (L2N.CX P w) C 2 "need_byte" ["self"] (spNeed K C CF))
    (M2 : MOk P w K mg base CX0 C 2 "at" ["self", "signs"] (spAt K C)) (G3 : GOk P w K mg base (L2N.CX P w) 3 "scalar_at" ["given", "place"] (spSA K CF)) (G4 : GOk P w K mg base CX0 2 "just_one" ["value"] (spJust K)) :
    FnOk P w K mg base (L2N.CX P w) 4 f fd ["self", "barred"] (spPlain K C CF) := by
  obtain ⟨f1, fd1, m1, b1, G1⟩ := M1
  obtain ⟨f2, fd2, m2, b2, G2⟩ := M2
  obtain ⟨f3, fd3, gg3, k3, b3, G3⟩ := G3
  obtain ⟨f4, fd4, gg4, k4, b4, G4⟩ := G4
  refine F.okN scPlain (fun vs H Q E h => ?_) (fun cdv A outer s H vs Q E hr h => ⟨_, pss_cons (ps_expr (pe_meth0 (pv 0) T.cl m1 G1 (hr.mono (by decide)) b1 .nil (L2N.passes_call (L2N.takes_of rfl rfl rfl rfl) (fun _ _ _ _ h => h))))
      (pss_cons (ps_if (pt_val (pe_meth (pv 0) T.cl m2 G2 (hr.mono (by decide)) b2 .nil pass0 (pa_cons (pv 1) pa_nil)))
        (pss_one (ps_raiseFault rfl T.ft hr (L2N.takes_of rfl rfl rfl rfl) (by exact (pa_cons (pe_gi T.k2) (pa_cons (pe_fld (pv 0) rfl) pa_nil))))) pss_nil)
      (pss_cons (ps_set (i := 2) scPlain.nd rfl (Or.inl rfl) (pe_call G3 hr rfl gg3 k3 b3 .nil (L2N.passes_call (L2N.takes_of rfl rfl rfl rfl) (fun _ _ _ _ h => h)) (by exact (pa_cons (pe_fld (pv 0) rfl) (pa_cons (pe_fld (pv 0) rfl) pa_nil)))))
      (pss_cons (ps_fld (pv 0) (pe_ix ix_tup (pv 2) pe_int (fun _ _ => rfl)) rfl)
      (pss_one (ps_ret (pe_call G4 (hr.mono (by decide)) rfl gg4 k4 b4 .nil pass0 (by exact (pa_cons (pe_ix ix_tup (pv 2) pe_int (fun _ _ => rfl)) pa_nil)))))))), ?_⟩)
  · unfold spPlain at h
    obtain ⟨_, _, _, _, _, _, _, _, rfl, _⟩ := h
    rfl
  · unfold spPlain at h
    obtain ⟨a, dx, ag, p, an, ab, g, z, rfl, h, hz, hQ⟩ := h
    refine ⟨_, rfl, a, dx, _, rfl, h.1, rF_no (by decide +kernel), ?_⟩
    refine need_use h (fun e => ?_) (fun e => ?_)
    · unfold plainE at hQ
      rw [List.getElem?_eq_none (by omega)] at hQ
      exact hQ
    · have hg : g[p]? = some g[p] := List.getElem?_eq_getElem e
      refine ⟨_, rfl, a, dx, _, rfl, h.1, rF_no (by decide +kernel), _, rfl, ?_⟩
      refine at_use h hz fun H1 s1 => ?_
      have h1 := h.same s1
      refine ⟨_, rfl, ?_⟩
      unfold plainE at hQ
      rw [hg] at hQ
      dsimp only at hQ
      rw [isAt_some hg]
      by_cases hc : (cds z).contains g[p].toNat = true
      · rw [if_pos hc] at hQ
        refine if_true_of hc ?_
        have hQ' : Out CF ⟨2, p⟩ E := hQ
        exact ⟨_, rfl, a, C, dx, _, _, rfl, h1.1, T.cl, T.nP, rF_place, _, _, rfl, fun d hd => hQ' d _ upd_same⟩
      · rw [if_neg hc] at hQ
        refine if_false_of (by simpa using hc) ?_
        refine ⟨_, rfl, a, C, dx, _, _, rfl, h1.1, T.cl, T.nG, rF_given, _, rfl, a, C, dx, _, _, rfl, h1.1, T.cl, T.nP, rF_place, ?_⟩
        refine sa_use h1.2.1 e h1.2.2.2 ?_
        cases ev : valueP p (g.drop p) with
        | error x =>
          rw [ev] at hQ
          exact hQ
        | ok y =>
          obtain ⟨v, r, q⟩ := y
          rw [ev] at hQ
          dsimp only
          intro H2 t s2 hn ht
          have hQ' : ∀ H' v', RAt C H' a dx ag q an ab → Kept H H' a → RgNew K H H' v' [(v, v)] → Q v' H' := hQ
          have h2 := h1.same s2
          have ta : t ≠ a := (ne_of_none h1.1 hn).symm
          refine ⟨_, rfl, t, _, _, _, rfl, rfl, SqT.of ht, rfl, ?_⟩
          refine ⟨_, rfl, a, C, dx, _, rfl, h2.1, T.cl, T.nP, by show 4 < 1000; decide, ?_⟩
          refine ⟨_, rfl, t, _, _, _, rfl, rfl, SqT.of (by rw [upd_ne ta]; exact ht), rfl, ?_⟩
          have ra : RAt C (upd H2 a (.ins C dx (putF "place" (.int (q : Nat)) (rF ag p an ab)))) a dx ag q an ab := upd_same.trans (congrArg (fun q => some (HO.ins C dx q)) rF_put)
          have kk : Kept H (upd H2 a (.ins C dx (putF "place" (.int (q : Nat)) (rF ag p an ab)))) a := (Kept.of_same (s1.trans s2)).trans Kept.upd
          refine just_use fun H3 v' s3 ⟨ar, e1, e2, e3⟩ => ?_
          exact hQ' _ _ (s3 _ _ ra) (kk.trans (Kept.of_same s3)) ⟨ar, e1, none_kept kk ra e2, e3⟩
end
end Pat
end

section
namespace Pat
open PySem PySem.Spec PyProof.Rows L2
open PySem.FaultX (FaultTxt)
open PatUtf (Fault)
open PatWords (valueP oneP partsP)
/-- two entries, texts of one sign -/
theorem kat_str {P : Program} {w : World} {K : PySem.W.Frag} {d : Addr} {n : Nat} {a1 a2 : Nat} {v1 v2 : Int} {t1 t2 t3 t4 : Tok} (hd : (d == sysModules) = false)
    (hl : K.lookup d = some ⟨.type "dict", none, .dict #[⟨PyData.keyHash w.params (sg a1), .str (sg a1) t1, .int v1 t2⟩, ⟨PyData.keyHash w.params (sg a2), .str (sg a2) t3, .int v2 t4⟩] n, #[]⟩) (i : Nat) :
    KAt P w K d (.str (sg i)) (if i = a1 then some (.int v1) else if i = a2 then some (.int v2) else none) := by
  have inj : ∀ {a b : Nat}, sg a = sg b → a = b := fun {a b} e => by
    have e2 : (#[a] : Array Nat) = #[b] := congrArg Str.cps e
    simpa using e2
  refine ⟨hd, Str, inferInstance, strKind P w, sg i, fun k => findBy Value.isStrOf #[⟨PyData.keyHash w.params (sg a1), .str (sg a1) t1, .int v1 t2⟩, ⟨PyData.keyHash w.params (sg a2), .str (sg a2) t3, .int v2 t4⟩] k, ?_, ?_, ?_⟩
  · rintro u ⟨t, rfl⟩
    exact PySem.strKind_is P w (sg i) t
  · intro h X
    refine PySem.W.mapOf_K X hl ?_
    exact ⟨⟨_, _, rfl, rfl⟩, ⟨_, _, rfl, rfl⟩, trivial⟩
  · unfold findBy
    dsimp only
    rw [List.find?_toArray]
    have is_ : ∀ (a : Nat) (t : Tok), Value.isStrOf (sg i) (.str (sg a) t) = decide (i = a) := fun a t => by
      by_cases c : i = a
      · subst c
        rw [decide_eq_true rfl]
        exact PySem.strKind_is P w (sg i) t
      · rw [decide_eq_false c]
        cases e : Value.isStrOf (sg i) (.str (sg a) t) with
        | false => rfl
        | true =>
          exact absurd (inj (Value.isStrOf_inj _ _ _ e (PySem.strKind_is P w (sg a) t))) c
    by_cases c1 : i = a1
    · rw [if_pos c1, List.find?_cons_of_pos (by show Value.isStrOf _ _ = true; rw [is_]; exact decide_eq_true c1)]
      exact ⟨t2, rfl⟩
    · rw [if_neg c1, List.find?_cons_of_neg (by show ¬ Value.isStrOf _ _ = true; rw [is_, decide_eq_false c1]; exact Bool.false_ne_true)]
      by_cases c2 : i = a2
      · rw [if_pos c2, List.find?_cons_of_pos (by show Value.isStrOf _ _ = true; rw [is_]; exact decide_eq_true c2)]
        exact ⟨t4, rfl⟩
      · rw [if_neg c2, List.find?_cons_of_neg (by show ¬ Value.isStrOf _ _ = true; rw [is_, decide_eq_false c2]; exact Bool.false_ne_true)]
        trivial
/-! ### escape_ranges -/
structure TxE (P : Program) (w : World) (K : PySem.W.Frag) (mg : Str → Option Value) : Prop where
  lst : ∃ t, mg "LISTED_ESCAPES" = some (.str zCls t)
  ctrl : ∃ d, mg "CONTROL_VALUES" = some (.ref d) ∧ KDic K d ∧ ∀ i : Nat, KAt P w K d (.str (sg i)) (if i = 110 then some (.int 10) else if i = 116 then some (.int 9) else none)
  ord : mg "ord" = none
theorem pe_gs {X : Cx} {x : Str} {z : Str} {pos : Pos} (h : ∃ t, X.mg x = some (.str z t)) (hg : Gl X x := by rfl) (hd : (x == ("__debug__" : Str)) = false := by decide) : PE X (.Name x pos) (tC (.str z)) := by
  obtain ⟨t, h⟩ := h
  exact pe_glob hg h ⟨t, rfl⟩ hd
abbrev sER : Stmt := top i_escape_ranges
section
variable {P : Program} {w : World} {K : PySem.W.Frag} {mg : Str → Option Value} {base : Heap} {C CF fI : Addr}
@[irreducible] def spEsc (K : PySem.W.Frag) : Sp := fun vs H Q _ => ∃ c : Nat, vs = [.str (sg c)] ∧ GivesR K H Q (escL c)
theorem scER : FnScope ["sign"] ["sign"] (defScope sER) := ⟨rfl, rfl, rfl, by decide +kernel, rfl, by decide +kernel, by decide +kernel⟩
theorem esc_use {c : Nat} {H : Hp} {Q : VK} {E : XK} (h : GivesR K H Q (escL c)) : spEsc K [.str (sg c)] H Q E := by
  unfold spEsc
  exact ⟨c, rfl, h⟩
theorem ok_esc {f : Addr} {fd : FuncData} (F : Fun K "escape_ranges" "escape_ranges" sER f fd) (T : TxE P w K mg) (G1 : GOk P w K mg base CX0 3 "listed_ranges" ["sign"] (spListed K)) (G2 : GOk P w K mg base CX0 2 "just_one" ["value"] (spJust K)) :
    FnOk P w K mg base CX0 4 f fd ["sign"] (spEsc K) := by
  obtain ⟨d, hd1, hd2, hd3⟩ := T.ctrl
  obtain ⟨f1, fd1, gg1, k1, b1, G1⟩ := G1
  obtain ⟨f2, fd2, gg2, k2, b2, G2⟩ := G2
  refine F.ok scER (fun vs H Q E h => ?_) (fun cdv A outer s H vs Q E hr h => ⟨_, pss_cons (ps_if (pt_cmpR op_in_sign (pv 0) (pe_gs T.lst) (by rfl)) (pss_one (ps_ret (pe_call G1 hr rfl gg1 k1 b1 .nil pass0 (by exact (pa_cons (pv 0) pa_nil))))) pss_nil)
      (pss_one (ps_ret (pe_call G2 (hr.mono (by decide)) rfl gg2 k2 b2 .nil pass0 (by exact (pa_cons (pe_kget2 (pe_glob (v := .ref d) rfl hd1 rfl) (pv 0) (pe_callB call_ord (by rfl) T.ord (by decide +kernel) (pa_cons (pv 0) pa_nil)) ⟨by rfl, by rfl, by rfl, by rfl⟩) pa_nil))))), ?_⟩)
  · unfold spEsc at h
    obtain ⟨_, rfl, _⟩ := h
    rfl
  · unfold spEsc at h
    obtain ⟨c, rfl, hQ⟩ := h
    refine ⟨_, rfl, c, zCls, rfl, rfl, ?_⟩
    unfold escL at hQ
    by_cases hc : (cds zCls).contains c = true
    · rw [if_pos hc] at hQ
      exact ⟨_, rfl, if_true_of (decide_eq_true (List.contains_iff_mem.mp hc)) ⟨_, rfl, listed_use (List.contains_iff_mem.mp hc) hQ⟩⟩
    · rw [if_neg hc] at hQ
      refine ⟨_, rfl, if_false_of (decide_eq_false fun h => hc (List.contains_iff_mem.mpr h)) ?_⟩
      refine ⟨_, rfl, hd2, _, rfl, _, rfl, _, rfl, rfl, _, hd3 _, ?_⟩
      unfold escV at hQ
      by_cases c1 : c = 110
      · rw [if_pos c1] at hQ ⊢
        exact just_use (v := 10) hQ
      · rw [if_neg c1] at hQ ⊢
        by_cases c2 : c = 116
        · rw [if_pos c2] at hQ ⊢
          exact just_use (v := 9) hQ
        · rw [if_neg c2] at hQ ⊢
          exact just_use hQ
end
end Pat
end

section
namespace Pat
open PySem PySem.Spec PyProof.Rows L2
open PySem.FaultX (FaultTxt)
open PatUtf (Fault)
open PatWords (valueP oneP partsP)
theorem at_sign {z : Str} {n : UInt8} (h : ∀ k < 256, (fun c : UInt8 => (cds z).contains c.toNat == decide (c = n)) (UInt8.ofNat k) = true) (c : UInt8) : (cds z).contains c.toNat = decide (c = n) :=
  beq_iff_eq.mp (u8_all (p := fun c => (cds z).contains c.toNat == decide (c = n)) h c)
/-- the sign behind a backslash -/
def escT (z : Str) (g : List UInt8) (p : Nat) : Except Fault (Nat × Nat) := match g[p + 1]? with
  | none => .error ⟨1, p + 1⟩
  | some d => if (cds z).contains d.toNat = true then .ok (d.toNat, p + 2) else .error ⟨2, p + 1⟩
def retT (r : Except Fault (Nat × Nat)) : Except Fault (V × Nat) := match r with
  | .error e => .error e
  | .ok (x, q) => .ok (.str (sg x), q)
theorem oneE_esc {z : Str} {g : List UInt8} {p : Nat} (h : g[p]? = some 92) : oneE z g p = (match escT z g p with
    | .error e => .error e
    | .ok (x, q) => .ok (escL x, q)) := by
  unfold oneE escT
  rw [h]
  dsimp only
  rw [if_pos rfl]
  cases g[p + 1]? with
  | none => rfl
  | some d =>
    dsimp only
    by_cases c : (cds z).contains d.toNat = true
    · rw [if_pos c, if_pos c]
    · rw [if_neg c, if_neg c]
theorem oneE_plain {z : Str} {g : List UInt8} {p : Nat} (h : g[p]? ≠ some 92) : oneE z g p = plainE zSet g p := by
  unfold oneE plainE
  cases e : g[p]? with
  | none => rfl
  | some c =>
    rw [e] at h
    dsimp only
    rw [if_neg (fun x => h (by rw [x]))]
    all_goals
      by_cases hc : (cds zSet).contains c.toNat = true
      · rw [if_pos hc, if_pos hc]
      · rw [if_neg hc, if_neg hc]
        cases valueP p (g.drop p) with
        | error e => rfl
        | ok y => rfl
theorem takeE_yes {z : Str} {g : List UInt8} {p : Nat} {c : UInt8} (h : g[p]? = some c) (hc : (cds z).contains c.toNat = true) : takeE z g p = .ok (.str (sg c.toNat), p + 1) := by
  unfold takeE
  rw [h]
  dsimp only
  rw [if_pos hc]
theorem takeE_no {z : Str} {g : List UInt8} {p : Nat} {c : UInt8} (h : g[p]? = some c) (hc : (cds z).contains c.toNat = false) : takeE z g p = .error ⟨2, p⟩ := by
  unfold takeE
  rw [h]
  dsimp only
  rw [if_neg (by rw [hc]; exact Bool.false_ne_true)]
theorem takeE_end {z : Str} {g : List UInt8} {p : Nat} (h : g[p]? = none) : takeE z g p = .error ⟨1, p⟩ := by
  unfold takeE
  rw [h]
theorem lt_of_some {g : List UInt8} {p : Nat} {c : UInt8} (h : g[p]? = some c) : p < g.length := (List.getElem?_eq_some_iff.mp h).1
section
variable {P : Program} {w : World} {K : PySem.W.Frag} {mg : Str → Option Value} {base : Heap} {C CF fI : Addr} {H H1 H2 : Hp} {a dx ag an ab : Addr} {p q : Nat} {g : List UInt8} {z : Str} {Q : VK} {E : XK}
/-! ### take_escape -/
@[irreducible] def spEscape (K : PySem.W.Frag) (C CF : Addr) : Sp := fun vs H Q E => ∃ (a dx ag : Addr) (p : Nat) (an ab : Addr) (g : List UInt8) (z : Str), vs = [.ref a, .str z] ∧ At K C H a dx ag p an ab g ∧ g[p]? = some 92 ∧ Ret C CF a dx ag an ab H Q E (retT (escT z g p))
theorem escape_use (h : At K C H a dx ag p an ab g) (h92 : g[p]? = some 92) (r : Ret C CF a dx ag an ab H Q E (retT (escT z g p))) : spEscape K C CF [.ref a, .str z] H Q E := by
  unfold spEscape
  exact ⟨a, dx, ag, p, an, ab, g, z, rfl, h, h92, r⟩
theorem scEscape : FnScope ["self", "escapes"] ["self", "escapes"] (defScope (sR 5)) := ⟨rfl, rfl, rfl, by decide +kernel, rfl, by decide +kernel, by decide +kernel⟩
theorem ok_escape {f : Addr} {fd : FuncData} (F : Fun K "take_escape" "Reader.take_escape" (sR 5) f fd) (T : Txt K mg C CF fI) (M1 : MOk P w K mg base (L2N.CX P w) C 3 "take" ["self", "signs"] (spTake K C CF)) :
    FnOk P w K mg base (L2N.CX P w) 4 f fd ["self", "escapes"] (spEscape K C CF) := by
  obtain ⟨f1, fd1, m1, b1, G1⟩ := M1
  refine F.okN scEscape (fun vs H Q E h => ?_) (fun cdv A outer s H vs Q E hr h => ⟨_, pss_cons (ps_expr (pe_meth (pv 0) T.cl m1 G1 hr b1 .nil (L2N.passes_call (L2N.takes_of rfl rfl rfl rfl) (fun _ _ _ _ h => h)) (by exact (pa_cons pe_str pa_nil))))
      (pss_one (ps_ret (pe_meth (pv 0) T.cl m1 G1 hr b1 .nil (L2N.passes_call (L2N.takes_of rfl rfl rfl rfl) (fun _ _ _ _ h => h)) (by exact (pa_cons (pv 1) pa_nil))))), ?_⟩)
  · unfold spEscape at h
    obtain ⟨_, _, _, _, _, _, _, _, rfl, _⟩ := h
    rfl
  · unfold spEscape at h
    obtain ⟨a, dx, ag, p, an, ab, g, z, rfl, h, h92, hQ⟩ := h
    have hlt := lt_of_some h92
    refine ⟨_, rfl, a, dx, _, rfl, h.1, rF_no (by decide +kernel), ?_⟩
    refine take_use h ?_
    rw [takeE_yes h92 (by decide +kernel)]
    intro H1 r1 k1
    have h1 := h.next r1 k1 (by omega)
    refine ⟨_, rfl, a, dx, _, rfl, h1.1, rF_no (by decide +kernel), _, rfl, ?_⟩
    refine take_use h1 ?_
    unfold escT at hQ
    cases hd : g[p + 1]? with
    | none =>
      rw [hd] at hQ
      rw [takeE_end hd]
      exact hQ
    | some d =>
      rw [hd] at hQ
      dsimp only at hQ
      by_cases hc : (cds z).contains d.toNat = true
      · rw [if_pos hc] at hQ
        rw [takeE_yes hd hc]
        intro H2 r2 k2
        have hQ' : ∀ H', RAt C H' a dx ag (p + 2) an ab → Kept H H' a → Q (.str (sg d.toNat)) H' := hQ
        exact hQ' H2 r2 (k1.trans k2)
      · rw [if_neg hc] at hQ
        rw [takeE_no hd (by simpa using hc)]
        exact hQ
/-! ### take_one -/
@[irreducible] def spOne (K : PySem.W.Frag) (C CF : Addr) : Sp := fun vs H Q E => ∃ (a dx ag : Addr) (p : Nat) (an ab : Addr) (g : List UInt8) (z : Str), vs = [.ref a, .str z] ∧ At K C H a dx ag p an ab g ∧ RetR K C CF a dx ag an ab H Q E (oneE z g p)
theorem one_use (h : At K C H a dx ag p an ab g) (r : RetR K C CF a dx ag an ab H Q E (oneE z g p)) : spOne K C CF [.ref a, .str z] H Q E := by
  unfold spOne
  exact ⟨a, dx, ag, p, an, ab, g, z, rfl, h, r⟩
theorem plain_use (h : At K C H a dx ag p an ab g) (hz : (cds z).length ≤ 1000) (r : RetR K C CF a dx ag an ab H Q E (plainE z g p)) : spPlain K C CF [.ref a, .str z] H Q E := by
  unfold spPlain
  exact ⟨a, dx, ag, p, an, ab, g, z, rfl, h, hz, r⟩
theorem scOne : FnScope ["self", "escapes"] ["self", "escapes"] (defScope (sR 6)) := ⟨rfl, rfl, rfl, by decide +kernel, rfl, by decide +kernel, by decide +kernel⟩
theorem ok_one {f : Addr} {fd : FuncData} (F : Fun K "take_one" "Reader.take_one" (sR 6) f fd) (T : Txt K mg C CF fI) (hS : ∃ t, mg "SET_SIGNS" = some (.str zSet t))
    (M1 : MOk P w K mg base CX0 C 2 "at" ["self", "signs"] (spAt K C)) (M2 : MOk P w K mg base (L2N.CX P w) C 4 "take_escape" ["self", "escapes"] (spEscape K C CF))
    (M3 : MOk P w K mg base (L2N.CX P w) C 4 "take_plain" ["self", "barred"] (spPlain K C CF)) (G4 : GOk P w K mg base CX0 4 "escape_ranges" ["sign"] (spEsc K)) : FnOk P w K mg base (L2N.CX P w) 5 f fd ["self", "escapes"] (spOne K C CF) := by
  obtain ⟨f1, fd1, m1, b1, G1⟩ := M1
  obtain ⟨f2, fd2, m2, b2, G2⟩ := M2
  obtain ⟨f3, fd3, m3, b3, G3⟩ := M3
  obtain ⟨f4, fd4, gg4, k4, b4, G4⟩ := G4
  refine F.okN scOne (fun vs H Q E h => ?_) (fun cdv A outer s H vs Q E hr h => ⟨_, pss_cons (ps_if (pt_val (pe_meth (pv 0) T.cl m1 G1 (hr.mono (by decide)) b1 .nil pass0 (pa_cons pe_str pa_nil)))
        (pss_one (ps_ret (pe_call G4 hr rfl gg4 k4 b4 .nil pass0 (by exact (pa_cons (pe_meth (pv 0) T.cl m2 G2 hr b2 .nil (L2N.passes_call (L2N.takes_of rfl rfl rfl rfl) (fun _ _ _ _ h => h)) (by exact (pa_cons (pv 1) pa_nil))) pa_nil))))) pss_nil)
      (pss_one (ps_ret (pe_meth (pv 0) T.cl m3 G3 hr b3 .nil (L2N.passes_call (L2N.takes_of rfl rfl rfl rfl) (fun _ _ _ _ h => h)) (by exact (pa_cons (pe_gs hS) pa_nil))))), ?_⟩)
  · unfold spOne at h
    obtain ⟨_, _, _, _, _, _, _, _, rfl, _⟩ := h
    rfl
  · unfold spOne at h
    obtain ⟨a, dx, ag, p, an, ab, g, z, rfl, h, hQ⟩ := h
    refine ⟨_, rfl, a, dx, _, rfl, h.1, rF_no (by decide +kernel), ?_⟩
    refine at_use h (by decide +kernel) fun H1 s1 => ?_
    have h1 := h.same s1
    have hQ1 := RetR.mono hQ (Kept.of_same s1) h1.1
    refine ⟨_, rfl, ?_⟩
    by_cases c : g[p]? = some 92
    · refine if_true_of (by rw [isAt_some c, at_sign (n := 92) (by decide +kernel)]; rfl) ?_
      refine ⟨_, rfl, a, dx, _, rfl, h1.1, rF_no (by decide +kernel), _, rfl, ?_⟩
      rw [oneE_esc c] at hQ1
      refine escape_use h1 c ?_
      cases e : escT z g p with
      | error x => rw [e] at hQ1; exact hQ1
      | ok y =>
        obtain ⟨x, q⟩ := y
        rw [e] at hQ1
        have hQ' : ∀ H' v, RAt C H' a dx ag q an ab → Kept H1 H' a → RgNew K H1 H' v (escL x) → Q v H' := hQ1
        intro H2 r2 k2
        refine esc_use fun H3 v s3 ⟨ar, e1, e2, e3⟩ => ?_
        exact hQ' H3 v (s3 _ _ r2) (k2.trans (Kept.of_same s3)) ⟨ar, e1, none_kept k2 r2 e2, e3⟩
    · refine if_false_of ?_ ?_
      · cases e : g[p]? with
        | none => exact isAt_none e
        | some d =>
          rw [isAt_some e, at_sign (n := 92) (by decide +kernel)]
          exact decide_eq_false fun x => c (by rw [e, x])
      · refine ⟨_, rfl, a, dx, _, rfl, h1.1, rF_no (by decide +kernel), ?_⟩
        rw [oneE_plain c] at hQ1
        exact plain_use h1 (by decide +kernel) hQ1
end
end Pat
end

section
namespace Pat
open PySem PySem.Spec PyProof.Rows L2
open PySem.FaultX (FaultTxt)
open PatUtf (Fault)
open PatWords (valueP oneP partsP)
section
variable {P : Program} {w : World} {K : PySem.W.Frag} {mg : Str → Option Value} {base : Heap} {C CF fI : Addr} {H H1 H2 : Hp} {a dx ag an ab : Addr} {p q : Nat} {g : List UInt8} {z : Str} {Q : VK} {E : XK}
/-! ### take_part -/
@[irreducible] def spGoR (K : PySem.W.Frag) (C CF : Addr) (f : List UInt8 → Nat → Except Fault (List (Nat × Nat) × Nat)) : Sp := fun vs H Q E => ∃ (a dx ag : Addr) (p : Nat) (an ab : Addr) (g : List UInt8), vs = [.ref a] ∧ At K C H a dx ag p an ab g ∧ RetR K C CF a dx ag an ab H Q E (f g p)
theorem goR_use {f : List UInt8 → Nat → Except Fault (List (Nat × Nat) × Nat)} (h : At K C H a dx ag p an ab g) (r : RetR K C CF a dx ag an ab H Q E (f g p)) : spGoR K C CF f [.ref a] H Q E := by
  unfold spGoR
  exact ⟨a, dx, ag, p, an, ab, g, rfl, h, r⟩
theorem goR_len {f : List UInt8 → Nat → Except Fault (List (Nat × Nat) × Nat)} {vs : List V} (h : spGoR K C CF f vs H Q E) : vs.length = 1 := by
  unfold spGoR at h
  obtain ⟨_, _, _, _, _, _, _, rfl, _⟩ := h
  rfl
theorem sqt_kept {K : PySem.W.Frag} {H H' : Hp} {a t dx C : Addr} {fs : List (Str × V)} {xs : List V} (h : SqT K H t xs) (e : H a = some (.ins C dx fs)) (k : Kept H H' a) : SqT K H' t xs := by
  rcases h with (h | ⟨o, h⟩) | h
  · exact .inl (.inl (k _ _ h (ne_of h e (by intro z; cases z))))
  · exact .inl (.inr ⟨o, k _ _ h (ne_of h e (by intro z; cases z))⟩)
  · exact .inr h
theorem RgAt.kept {ar : Addr} {l : List (Nat × Nat)} {fs : List (Str × V)} {x dy D : Addr} (h : RgAt K H ar l) (e : H x = some (.ins D dy fs)) (k : Kept H H1 x) : RgAt K H1 ar l := by
  obtain ⟨ts, h1, h2⟩ := h
  exact ⟨ts, k _ _ h1 (ne_of h1 e (by intro z; cases z)), Tups.map (fun _ _ h => sqt_kept h e k) h2⟩
theorem scPart : FnScope ["self", "first_place", "first", "last"] ["self"] (defScope (sR 7)) := ⟨rfl, rfl, rfl, by decide +kernel, rfl, by decide +kernel, by decide +kernel⟩
theorem ok_part {f : Addr} {fd : FuncData} (F : Fun K "take_part" "Reader.take_part" (sR 7) f fd) (T : Txt K mg C CF fI) (hS1 : ∃ t, mg "PART_ESCAPES" = some (.str zPart t)) (hS2 : ∃ t, mg "END_ESCAPES" = some (.str zEnd t)) (k6 : ∃ t, mg "ENDS_IN_WRONG_ORDER" = some (.int 6 t))
    (M1 : MOk P w K mg base CX0 C 2 "at" ["self", "signs"] (spAt K C)) (M2 : MOk P w K mg base (L2N.CX P w) C 5 "take_one" ["self", "escapes"] (spOne K C CF))
    (M3 : MOk P w K mg base (L2N.CX P w) C 3 "take" ["self", "signs"] (spTake K C CF)) (G4 : GOk P w K mg base CX0 2 "is_just_one" ["ranges"] (spIsJ K)) : FnOk P w K mg base (L2N.CX P w) 6 f fd ["self"] (spGoR K C CF partE) := by
  obtain ⟨f1, fd1, m1, b1, G1⟩ := M1
  obtain ⟨f2, fd2, m2, b2, G2⟩ := M2
  obtain ⟨f3, fd3, m3, b3, G3⟩ := M3
  obtain ⟨f4, fd4, gg4, k4, b4, G4⟩ := G4
  refine F.okN scPart (fun vs H Q E h => goR_len h) (fun cdv A outer s H vs Q E hr h => ⟨_, pss_cons (ps_set (i := 1) scPart.nd rfl (Or.inl rfl) (pe_fld (pv 0) rfl))
      (pss_cons (ps_set (i := 2) scPart.nd rfl (Or.inl rfl) (pe_meth (pv 0) T.cl m2 G2 hr b2 .nil (L2N.passes_call (L2N.takes_of rfl rfl rfl rfl) (fun _ _ _ _ h => h)) (by exact (pa_cons (pe_gs hS1) pa_nil))))
      (pss_cons (ps_if (PW.pt (pw_or (pt_not (pt_val (pe_call G4 (hr.mono (by decide)) rfl gg4 k4 b4 .nil pass0 (by exact (pa_cons (pv 2) pa_nil))))) (pw_or1 (pt_not (pt_val (pe_meth (pv 0) T.cl m1 G1 (hr.mono (by decide)) b1 .nil pass0 (pa_cons pe_str pa_nil)))))))
        (pss_one (ps_ret (pv 2))) pss_nil)
      (pss_cons (ps_expr (pe_meth (pv 0) T.cl m3 G3 (hr.mono (by decide)) b3 .nil (L2N.passes_call (L2N.takes_of rfl rfl rfl rfl) (fun _ _ _ _ h => h)) (by exact (pa_cons pe_str pa_nil))))
      (pss_cons (ps_set (i := 3) scPart.nd rfl (Or.inl rfl) (pe_meth (pv 0) T.cl m2 G2 hr b2 .nil (L2N.passes_call (L2N.takes_of rfl rfl rfl rfl) (fun _ _ _ _ h => h)) (by exact (pa_cons (pe_gs hS2) pa_nil))))
      (pss_cons (ps_if (pt_cmpR op_gt (pe_ix ix_tup (pe_ix ix_list (pv 2) pe_int (fun _ _ => rfl)) pe_int (fun _ _ => rfl)) (pe_ix ix_tup (pe_ix ix_list (pv 3) pe_int (fun _ _ => rfl)) pe_int (fun _ _ => rfl)) (nomark _))
            (pss_one (ps_raiseFault rfl T.ft hr (L2N.takes_of rfl rfl rfl rfl) (by exact (pa_cons (pe_gi k6) (pa_cons (pv 1) pa_nil))))) pss_nil)
      (pss_one (ps_ret (pe_lst (pa_cons (pe_tup (pa_cons (pe_ix ix_tup (pe_ix ix_list (pv 2) pe_int (fun _ _ => rfl)) pe_int (fun _ _ => rfl)) (pa_cons (pe_ix ix_tup (pe_ix ix_list (pv 3) pe_int (fun _ _ => rfl)) pe_int (fun _ _ => rfl)) pa_nil))) pa_nil))))))))), ?_⟩)
  unfold spGoR at h
  obtain ⟨a, dx, ag, p, an, ab, g, rfl, h, hQ⟩ := h
  refine ⟨_, rfl, a, C, dx, _, _, rfl, h.1, T.cl, T.nP, rF_place, ?_⟩
  refine ⟨_, rfl, a, dx, _, rfl, h.1, rF_no (by decide +kernel), ?_⟩
  refine one_use h ?_
  unfold partE at hQ
  cases e1 : oneE zPart g p with
  | error x => rw [e1] at hQ; exact hQ
  | ok y =>
    obtain ⟨l, q⟩ := y
    obtain ⟨hpq, hql⟩ := oneE_ok e1
    have hne := oneE_ne e1
    rw [e1] at hQ
    dsimp only at hQ
    rintro H1 _ r1 k1 ⟨ar, rfl, har, hrg⟩
    have h1 := h.next r1 k1 hql
    refine ⟨_, rfl, ?_⟩
    refine isj_use hrg hne ⟨_, rfl, ?_⟩
    cases ej : isJust l with
    | false =>
      rw [ej, if_neg (fun x => Bool.false_ne_true x.1)] at hQ
      have hQ' : ∀ H' v, RAt C H' a dx ag q an ab → Kept H H' a → RgNew K H H' v l → Q v H' := hQ
      exact if_true_of rfl (if_true_of rfl ⟨_, rfl, hQ' H1 _ r1 k1 ⟨ar, rfl, har, hrg⟩⟩)
    | true =>
      refine if_false_of rfl ?_
      refine ⟨_, rfl, a, dx, _, rfl, h1.1, rF_no (by decide +kernel), ?_⟩
      refine at_use h1 (by decide +kernel) fun H2 s2 => ?_
      have h2 := h1.same s2
      have k2 := k1.trans (Kept.of_same s2)
      have hrg2 := hrg.same s2
      refine ⟨_, rfl, ?_⟩
      cases ea : isAt g q "-" with
      | false =>
        rw [ea, if_neg (fun x => Bool.false_ne_true x.2)] at hQ
        have hQ' : ∀ H' v, RAt C H' a dx ag q an ab → Kept H H' a → RgNew K H H' v l → Q v H' := hQ
        exact if_true_of rfl ⟨_, rfl, hQ' H2 _ h2.1 k2 ⟨ar, rfl, har, hrg2⟩⟩
      | true =>
        rw [ea, if_pos ⟨ej, rfl⟩] at hQ
        refine if_false_of rfl ?_
        obtain ⟨d, hd, hd45⟩ : ∃ d, g[q]? = some d ∧ (cds "-").contains d.toNat = true := by
          cases e : g[q]? with
          | none => rw [isAt_none e] at ea; cases ea
          | some d => rw [isAt_some e] at ea; exact ⟨d, rfl, ea⟩
        have hlt := lt_of_some hd
        refine ⟨_, rfl, a, dx, _, rfl, h2.1, rF_no (by decide +kernel), ?_⟩
        refine take_use h2 ?_
        rw [takeE_yes hd hd45]
        intro H3 r3 k3
        have h3 := h2.next r3 k3 (by omega)
        have k13 := k2.trans k3
        have hrg3 := hrg2.kept h2.1 k3
        refine ⟨_, rfl, a, dx, _, rfl, h3.1, rF_no (by decide +kernel), ?_⟩
        refine one_use h3 ?_
        cases e2 : oneE zEnd g (q + 1) with
        | error x => rw [e2] at hQ; exact hQ
        | ok y2 =>
          obtain ⟨m, k⟩ := y2
          have hnm := oneE_ne e2
          rw [e2] at hQ
          dsimp only at hQ
          rintro H4 _ r4 k4 ⟨am, rfl, ham, hrm⟩
          have hrg4 := hrg3.kept h3.1 k4
          obtain ⟨ts, t, a1, a2, a3⟩ := hrg4.first hne
          obtain ⟨us, u, b1, b2, b3⟩ := hrm.first hnm
          refine ⟨_, rfl, ar, _, _, _, rfl, rfl, a1, a2, t, _, _, _, rfl, rfl, a3, rfl, ?_⟩
          refine ⟨_, rfl, am, _, _, _, rfl, rfl, b1, b2, u, _, _, _, rfl, rfl, b3, rfl, ?_⟩
          refine ⟨_, _, rfl, rfl, _, rfl, ?_⟩
          by_cases c : (m.head?.getD (0, 0)).2 < (l.head?.getD (0, 0)).1
          · rw [if_pos c] at hQ
            have hQ' : Out CF ⟨6, p⟩ E := hQ
            exact if_true_of (decide_eq_true (by omega)) ⟨_, rfl, _, _, rfl, fun d hd => hQ' d _ upd_same⟩
          · rw [if_neg c] at hQ
            have hQ' : ∀ H' v, RAt C H' a dx ag k an ab → Kept H H' a → RgNew K H H' v [((l.head?.getD (0, 0)).1, (m.head?.getD (0, 0)).2)] → Q v H' := hQ
            refine if_false_of (decide_eq_false (by omega)) ?_
            refine ⟨_, rfl, ar, _, _, _, rfl, rfl, a1, a2, t, _, _, _, rfl, rfl, a3, rfl, ?_⟩
            refine ⟨_, rfl, am, _, _, _, rfl, rfl, b1, b2, u, _, _, _, rfl, rfl, b3, rfl, ?_⟩
            refine ⟨by show 2 ≤ sizeLine; decide, fun z hz => ⟨by show 1 ≤ sizeLine; decide, fun o ho => ?_⟩⟩
            have hoz : o ≠ z := fun e => by rw [e, upd_same] at ho; cases ho
            have ho4 : H4 o = none := by rw [upd_ne hoz] at ho; exact ho
            have ss := Same.trans (Same.upd (o := HO.tup [V.int ((l.head?.getD (0, 0)).1 : Nat), V.int ((m.head?.getD (0, 0)).2 : Nat)]) hz) (Same.upd (o := HO.lst [V.ref z]) ho)
            refine hQ' _ _ (ss _ _ r4) ((k13.trans k4).trans (Kept.of_same ss)) ⟨o, rfl, none_kept (k13.trans k4) r4 ho4, [z], upd_same, ?_, trivial⟩
            exact SqT.of ((upd_ne hoz.symm).trans upd_same)
end
end Pat
end

section
namespace Pat
open PySem PySem.Spec PyProof.Rows L2
open PySem.FaultX (FaultTxt)
open PatUtf (Fault)
open PatWords (Name)
open Ways (WF FwdW FitsW FitAll oneWF seqsWF altsWF repWF capWF)
/-! ### parts in the heap -/
/-- all but what stands at some addresses is as it was -/
def KeptL (H H' : Hp) (S : List Addr) : Prop := ∀ b o, H b = some o → b ∉ S → H' b = some o
theorem KeptL.of_same {H H' : Hp} {S : List Addr} (s : Same H H') : KeptL H H' S := fun b o h _ => s b o h
theorem KeptL.trans {H H1 H2 : Hp} {S : List Addr} (x : KeptL H H1 S) (y : KeptL H1 H2 S) : KeptL H H2 S := fun b o h n => y b o (x b o h n) n
theorem KeptL.upd {H H1 : Hp} {S : List Addr} {a : Addr} {o : HO} (k : KeptL H H1 S) (m : a ∈ S) : KeptL H (upd H1 a o) S := fun b u h n => by
  rw [upd_ne (fun e => n (by rw [e]; exact m))]
  exact k b u h n
theorem KeptL.new {H H1 : Hp} {S : List Addr} {a : Addr} {o : HO} (k : KeptL H H1 S) (h0 : H a = none) : KeptL H (L2.upd H1 a o) S := fun b u h n => by
  rw [upd_ne (ne_of_none h h0)]
  exact k b u h n
theorem KeptL.of_kept {H H' : Hp} {a : Addr} {S : List Addr} (k : Kept H H' a) (m : a ∈ S) : KeptL H H' S := fun b o h n => k b o h fun e => n (by rw [e]; exact m)
theorem Same.of_keptL {H H' : Hp} (k : KeptL H H' []) : Same H H' := fun b o h => k b o h (List.not_mem_nil)
/-- the six classes -/
structure Cs where
  o : Addr
  s : Addr
  r : Addr
  c : Addr
  p : Addr
  k : Addr
inductive Kd where
  | one (ar : Addr) (l : List (Nat × Nat)) (neg : Bool)
  | stand (z : Str)
  | row (al : Addr) (bs : List Addr)
  | choice (al : Addr) (bs : List Addr)
  | rep (b : Addr) (m : Nat) (n : Option Nat)
  | cap (k : Nat) (b : Addr)
def Cs.at (cs : Cs) : Kd → Addr
  | .one _ _ _ => cs.o
  | .stand _ => cs.s
  | .row _ _ => cs.r
  | .choice _ _ => cs.c
  | .rep _ _ _ => cs.p
  | .cap _ _ => cs.k
def optN : Option Nat → V
  | none => .non
  | some n => .int (n : Nat)
def nF (rg ra : Addr) : Kd → List (Str × V)
  | .one ar _ neg => [("ranges", .ref ar), ("inverted", .bl neg), ("reach", .ref rg)]
  | .stand z => [("sign", .str z), ("reach", .ref rg)]
  | .row al _ => [("steps", .ref al), ("reach", .ref rg), ("reach_after", .ref ra)]
  | .choice al _ => [("rows", .ref al), ("reach", .ref rg)]
  | .rep b m n => [("body", .ref b), ("least", .int (m : Nat)), ("most", optN n), ("reach", .ref rg), ("reach_after", .ref ra)]
  | .cap k b => [("number", .int (k : Nat)), ("body", .ref b), ("reach", .ref rg)]
structure Info where
  dx : Addr
  kd : Kd
  d : Nat
  wf : WF
abbrev PM := Addr → Option Info
/-- what a part leans on -/
def Aux (K : PySem.W.Frag) (F : Hp) : Kd → Prop
  | .one ar l _ => RgAt K F ar l
  | .row al bs => F al = some (.lst (bs.map V.ref))
  | .choice al bs => F al = some (.lst (bs.map V.ref))
  | _ => True
theorem Aux.same {K : PySem.W.Frag} {F F' : Hp} {k : Kd} (h : Aux K F k) (s : Same F F') : Aux K F' k := by
  cases k with
  | one ar l neg => exact RgAt.same h s
  | row al bs => exact s _ _ h
  | choice al bs => exact s _ _ h
  | stand z => exact h
  | rep b m n => exact h
  | cap k b => exact h
def standW (z : Str) : WF := if z = "^" then fun _ i => if i = 0 then [(i, [])] else [] else if z = "$" then fun t i => if i = t.length then [(i, [])] else [] else fun t i => if PatWords.isEdge t i = true then [(i, [])] else []
/-- the parts that a part is made of -/
def Kids (M : PM) (d : Nat) : List Addr → List WF → Prop
  | [], [] => True
  | b :: bs, w :: ws => (∃ i, M b = some i ∧ i.d < d ∧ i.wf = w) ∧ Kids M d bs ws
  | _, _ => False
/-- what a part's ways are made of -/
def Stat (nm : List Name) (M : PM) (i : Info) : Prop := match i.kd with
  | .one _ l neg => i.wf = oneWF l neg
  | .stand z => (z = "^" ∨ z = "$" ∨ z = "b") ∧ i.wf = standW z
  | .row _ bs => bs.length ≤ 1000 ∧ ∃ ws, Kids M i.d bs ws ∧ i.wf = seqsWF ws
  | .choice _ bs => bs.length ≤ 1000 ∧ ∃ ws, Kids M i.d bs ws ∧ i.wf = altsWF ws
  | .rep b m n => m ≤ 20 ∧ (∀ k, n = some k → m ≤ k ∧ k ≤ 20) ∧ ∃ j, M b = some j ∧ j.d < i.d ∧ i.wf = repWF j.wf m n
  | .cap k b => ∃ j n, M b = some j ∧ j.d < i.d ∧ nm[k]? = some n ∧ i.wf = capWF n j.wf
theorem Kids.mono {M M' : PM} (h : ∀ b i, M b = some i → M' b = some i) {d d' : Nat} (hd : d ≤ d') : ∀ {bs : List Addr} {ws : List WF}, Kids M d bs ws → Kids M' d' bs ws
  | [], [], _ => trivial
  | [], _ :: _, h => h.elim
  | _ :: _, [], h => h.elim
  | _ :: _, _ :: _, ⟨⟨i, h1, h2, h3⟩, h4⟩ => ⟨⟨i, h _ _ h1, Nat.lt_of_lt_of_le h2 hd, h3⟩, Kids.mono h hd h4⟩
theorem Stat.mono {nm nm' : List Name} {M M' : PM} {i : Info} (hs : Stat nm M i) (h : ∀ b i, M b = some i → M' b = some i) (hn : ∀ (k : Nat) (n : Name), nm[k]? = some n → nm'[k]? = some n) : Stat nm' M' i := by
  unfold Stat at hs ⊢
  split at hs
  · exact hs
  · exact hs
  · obtain ⟨h0, ws, h1, h2⟩ := hs
    exact ⟨h0, ws, Kids.mono h (Nat.le_refl _) h1, h2⟩
  · obtain ⟨h0, ws, h1, h2⟩ := hs
    exact ⟨h0, ws, Kids.mono h (Nat.le_refl _) h1, h2⟩
  · obtain ⟨h0, h00, j, h1, h2, h3⟩ := hs
    exact ⟨h0, h00, j, h _ _ h1, h2, h3⟩
  · obtain ⟨j, n, h1, h2, h3, h4⟩ := hs
    exact ⟨j, n, h _ _ h1, h2, hn _ _ h3, h4⟩
/-- all parts that have been made: as they stand in what is frozen -/
structure Wd (K : PySem.W.Frag) (cs : Cs) (M : PM) (F : Hp) (nm : List Name) : Prop where
  node : ∀ b i, M b = some i → (∃ rg ra, F b = some (.ins (cs.at i.kd) i.dx (nF rg ra i.kd))) ∧ Aux K F i.kd
  stat : ∀ b i, M b = some i → Stat nm M i
  fwd : ∀ b i, M b = some i → FwdW i.wf
theorem Wd.names {K : PySem.W.Frag} {cs : Cs} {M : PM} {F : Hp} {nm nm' : List Name} (h : Wd K cs M F nm) (hn : ∀ (k : Nat) (n : Name), nm[k]? = some n → nm'[k]? = some n) : Wd K cs M F nm' :=
  ⟨h.node, fun b i e => (h.stat b i e).mono (fun _ _ h => h) hn, h.fwd⟩
theorem Wd.same {K : PySem.W.Frag} {cs : Cs} {M : PM} {F F' : Hp} {nm : List Name} (h : Wd K cs M F nm) (s : Same F F') : Wd K cs M F' nm :=
  ⟨fun b i e => by
    obtain ⟨⟨rg, ra, h1⟩, h2⟩ := h.node b i e
    exact ⟨⟨rg, ra, s _ _ h1⟩, h2.same s⟩, h.stat, h.fwd⟩
/-- a new part -/
def addM (M : PM) (b : Addr) (i : Info) : PM := fun x => if x = b then some i else M x
theorem addM_same {M : PM} {b : Addr} {i : Info} : addM M b i b = some i := if_pos rfl
theorem addM_old {M : PM} {b : Addr} {i : Info} (h : M b = none) : ∀ x j, M x = some j → addM M b i x = some j := fun x j e => by
  unfold addM
  rw [if_neg (fun y => by rw [y, h] at e; cases e)]
  exact e
theorem Wd.add {K : PySem.W.Frag} {cs : Cs} {M : PM} {F : Hp} {nm : List Name} {b : Addr} {i : Info} (h : Wd K cs M F nm) (hb : M b = none) (h1 : ∃ rg ra, F b = some (.ins (cs.at i.kd) i.dx (nF rg ra i.kd))) (h2 : Aux K F i.kd) (h3 : Stat nm M i) (h4 : FwdW i.wf) : Wd K cs (addM M b i) F nm where
  node := fun x j e => by
    unfold addM at e
    split at e
    · rename_i ex
      cases e
      rw [ex]
      exact ⟨h1, h2⟩
    · exact h.node x j e
  stat := fun x j e => by
    unfold addM at e
    split at e
    · cases e
      exact h3.mono (addM_old hb) (fun _ _ h => h)
    · exact (h.stat x j e).mono (addM_old hb) (fun _ _ h => h)
  fwd := fun x j e => by
    unfold addM at e
    split at e
    · cases e
      exact h4
    · exact h.fwd x j e
/-! ### what is frozen -/
def isTup : Option HO → Bool
  | some (.tup _) => true
  | some (.frz _ (.tup _)) => true
  | _ => false
/-- what was frozen; and S; and all tuples -/
def frz (F H : Hp) (S : List Addr) : Hp := fun x => match F x with
  | some o => some o
  | none => if x ∈ S ∨ isTup (H x) = true then H x else none
section
variable {F H : Hp} {S : List Addr}
theorem same_frz : Same F (frz F H S) := fun b o h => by
  unfold frz
  rw [h]
theorem frz_same (s : Same F H) : Same (frz F H S) H := fun b o h => by
  unfold frz at h
  cases e : F b with
  | some u =>
    rw [e] at h
    cases h
    exact s _ _ e
  | none =>
    rw [e] at h
    dsimp only at h
    split at h
    · exact h
    · cases h
theorem frz_in {x : Addr} {o : HO} (s : Same F H) (m : x ∈ S) (h : H x = some o) : frz F H S x = some o := by
  unfold frz
  cases e : F x with
  | some u =>
    dsimp only
    rw [s _ _ e] at h
    exact h
  | none =>
    dsimp only
    rw [if_pos (.inl m)]
    exact h
theorem frz_out {x : Addr} (hF : F x = none) (m : x ∉ S) (h : isTup (H x) = false) : frz F H S x = none := by
  unfold frz
  rw [hF]
  dsimp only
  rw [if_neg (by rw [h]; simp [m])]
theorem frz_tup {K : PySem.W.Frag} (s : Same F H) {t : Addr} {xs : List V} (h : SqT K H t xs) : SqT K (frz F H S) t xs := by
  have key : ∀ o, H t = some o → isTup (H t) = true → frz F H S t = some o := fun o e it => by
    unfold frz
    cases e2 : F t with
    | some u =>
      dsimp only
      rw [s _ _ e2] at e
      exact e
    | none =>
      dsimp only
      rw [if_pos (.inr it)]
      exact e
  rcases h with (h | ⟨o, h⟩) | h
  · exact .inl (.inl (key _ h (by rw [h]; rfl)))
  · exact .inl (.inr ⟨o, key _ h (by rw [h]; rfl)⟩)
  · exact .inr h
theorem frz_rg {K : PySem.W.Frag} (s : Same F H) {ar : Addr} {l : List (Nat × Nat)} (m : ar ∈ S) (h : RgAt K H ar l) : RgAt K (frz F H S) ar l := by
  obtain ⟨ts, h1, h2⟩ := h
  exact ⟨ts, frz_in s m h1, Tups.map (fun _ _ e => frz_tup s e) h2⟩
end
/-! ### patterns of parts -/
def Fits (M : PM) (b : Addr) (p : PatWords.Pat) (D : Nat) : Prop := ∃ i, M b = some i ∧ i.d ≤ D ∧ FitsW i.wf p
def AllFit (M : PM) (D : Nat) : List Addr → List PatWords.Pat → Prop
  | [], [] => True
  | b :: bs, p :: ps => Fits M b p D ∧ AllFit M D bs ps
  | _, _ => False
theorem Fits.mono {M M' : PM} {b : Addr} {p : PatWords.Pat} {D D' : Nat} (h : Fits M b p D) (hm : ∀ b i, M b = some i → M' b = some i) (hd : D ≤ D') : Fits M' b p D' := by
  obtain ⟨i, h1, h2, h3⟩ := h
  exact ⟨i, hm _ _ h1, Nat.le_trans h2 hd, h3⟩
theorem AllFit.mono {M M' : PM} {D D' : Nat} (hm : ∀ b i, M b = some i → M' b = some i) (hd : D ≤ D') : ∀ {bs : List Addr} {ps : List PatWords.Pat}, AllFit M D bs ps → AllFit M' D' bs ps
  | [], [], _ => trivial
  | [], _ :: _, h => h.elim
  | _ :: _, [], h => h.elim
  | _ :: _, _ :: _, ⟨h1, h2⟩ => ⟨h1.mono hm hd, AllFit.mono hm hd h2⟩
theorem AllFit.len {M : PM} {D : Nat} : ∀ {bs : List Addr} {ps : List PatWords.Pat}, AllFit M D bs ps → bs.length = ps.length
  | [], [], _ => rfl
  | [], _ :: _, h => h.elim
  | _ :: _, [], h => h.elim
  | _ :: _, _ :: _, ⟨_, h2⟩ => congrArg (· + 1) (AllFit.len h2)
theorem AllFit.snoc {M : PM} {D : Nat} {b : Addr} {p : PatWords.Pat} (h : Fits M b p D) : ∀ {bs : List Addr} {ps : List PatWords.Pat}, AllFit M D bs ps → AllFit M D (bs ++ [b]) (ps ++ [p])
  | [], [], _ => ⟨h, trivial⟩
  | [], _ :: _, h => h.elim
  | _ :: _, [], h => h.elim
  | _ :: _, _ :: _, ⟨h1, h2⟩ => ⟨h1, AllFit.snoc h h2⟩
theorem AllFit.unsnoc {M : PM} {D : Nat} : ∀ {bs : List Addr} {ps : List PatWords.Pat} {p : PatWords.Pat}, AllFit M D bs (ps ++ [p]) → ∃ bs' b, bs = bs' ++ [b] ∧ AllFit M D bs' ps ∧ Fits M b p D
  | [], [], _, h => h.elim
  | [], _ :: _, _, h => h.elim
  | [b], [], _, ⟨h1, _⟩ => ⟨[], b, rfl, trivial, h1⟩
  | _ :: _ :: _, [], _, ⟨_, h2⟩ => h2.elim
  | b :: bs, q :: ps, p, ⟨h1, h2⟩ => by
    obtain ⟨bs', c, e, h3, h4⟩ := AllFit.unsnoc h2
    exact ⟨b :: bs', c, by rw [e]; rfl, ⟨h1, h3⟩, h4⟩
theorem AllFit.kids {M : PM} {D : Nat} : ∀ {bs : List Addr} {ps : List PatWords.Pat}, AllFit M D bs ps → ∃ ws, Kids M (D + 1) bs ws ∧ FitAll ws ps
  | [], [], _ => ⟨[], trivial, trivial⟩
  | [], _ :: _, h => h.elim
  | _ :: _, [], h => h.elim
  | _ :: _, _ :: _, ⟨⟨i, h1, h2, h3⟩, h4⟩ => by
    obtain ⟨ws, h5, h6⟩ := AllFit.kids h4
    exact ⟨i.wf :: ws, ⟨⟨i, h1, Nat.lt_succ_of_le h2, rfl⟩, h5⟩, h3, h6⟩
end Pat
end

section
namespace Pat
open PySem PySem.Spec PyProof.Rows L2
/-! ### parts are made -/
/-- what the top has written of the six classes: that their fields are no attributes -/
structure TxN (K : PySem.W.Frag) (cs : Cs) : Prop where
  clo : Cls K cs.o
  cls : Cls K cs.s
  clr : Cls K cs.r
  clc : Cls K cs.c
  clp : Cls K cs.p
  clk : Cls K cs.k
  o1 : NoAttr K cs.o "ranges"
  o2 : NoAttr K cs.o "inverted"
  o3 : NoAttr K cs.o "reach"
  s1 : NoAttr K cs.s "sign"
  s2 : NoAttr K cs.s "reach"
  r1 : NoAttr K cs.r "steps"
  r2 : NoAttr K cs.r "reach"
  r3 : NoAttr K cs.r "reach_after"
  c1 : NoAttr K cs.c "rows"
  c2 : NoAttr K cs.c "reach"
  p1 : NoAttr K cs.p "body"
  p2 : NoAttr K cs.p "least"
  p3 : NoAttr K cs.p "most"
  p4 : NoAttr K cs.p "reach"
  p5 : NoAttr K cs.p "reach_after"
  k1 : NoAttr K cs.k "number"
  k2 : NoAttr K cs.k "body"
  k3 : NoAttr K cs.k "reach"
theorem put_new {f : Str} {v : V} {fs : List (Str × V)} (h : ∀ x ∈ fs, ¬ x.1 = f) : putF f v fs = fs ++ [(f, v)] := by
  induction fs with
  | nil => rfl
  | cons x fs ih =>
    obtain ⟨g, y⟩ := x
    rw [put_past (h (g, y) (List.mem_cons_self ..)), ih fun z m => h z (List.mem_cons_of_mem _ m)]
    rfl
theorem nf1 {f1 f2 : Str} {v1 v2 : V} (h : ¬ f1 = f2) : putF f2 v2 (putF f1 v1 []) = [(f1, v1), (f2, v2)] := put_past h
theorem nf2 {f1 f2 f3 : Str} {v1 v2 v3 : V} (h1 : ¬ f1 = f2) (h2 : ¬ f1 = f3) (h3 : ¬ f2 = f3) : putF f3 v3 (putF f2 v2 (putF f1 v1 [])) = [(f1, v1), (f2, v2), (f3, v3)] := by
  rw [nf1 h1]
  exact (put_past h2).trans (congrArg _ (put_past h3))
/-- the promise of an __init__ that lays fields; rg, ra: new lists -/
def MadeAt (C : Addr) (H : Hp) (b dx : Addr) (fs : Addr → Addr → List (Str × V)) (Q : VK) : Prop :=
  H b = some (.ins C dx []) ∧ ∀ H' rg ra, H' b = some (.ins C dx (fs rg ra)) → Kept H H' b → Q .non H'
section
variable {P : Program} {w : World} {K : PySem.W.Frag} {mg : Str → Option Value} {base : Heap} {cs : Cs} {H : Hp} {Q : VK} {E : XK}
abbrev sON (j : Nat) : Stmt := inClass (top i_OneValue) j
abbrev sSN (j : Nat) : Stmt := inClass (top i_Standpoint) j
abbrev sRN (j : Nat) : Stmt := inClass (top i_Row) j
abbrev sCN (j : Nat) : Stmt := inClass (top i_Choice) j
abbrev sPN (j : Nat) : Stmt := inClass (top i_Repetition) j
abbrev sKN (j : Nat) : Stmt := inClass (top i_Capture) j
@[irreducible] def spOI (cs : Cs) : Sp := fun vs H Q _ => ∃ (b dx ar : Addr) (neg : Bool), vs = [.ref b, .ref ar, .bl neg] ∧ MadeAt cs.o H b dx (fun rg ra => nF rg ra (.one ar [] neg)) Q
@[irreducible] def spSI (cs : Cs) : Sp := fun vs H Q _ => ∃ (b dx : Addr) (z : Str), vs = [.ref b, .str z] ∧ MadeAt cs.s H b dx (fun rg ra => nF rg ra (.stand z)) Q
@[irreducible] def spRI (cs : Cs) : Sp := fun vs H Q _ => ∃ (b dx al : Addr), vs = [.ref b, .ref al] ∧ MadeAt cs.r H b dx (fun rg ra => nF rg ra (.row al [])) Q
@[irreducible] def spCI (cs : Cs) : Sp := fun vs H Q _ => ∃ (b dx al : Addr), vs = [.ref b, .ref al] ∧ MadeAt cs.c H b dx (fun rg ra => nF rg ra (.choice al [])) Q
@[irreducible] def spPI (cs : Cs) : Sp := fun vs H Q _ => ∃ (b dx c : Addr) (m : Nat) (n : Option Nat), vs = [.ref b, .ref c, .int (m : Nat), optN n] ∧ MadeAt cs.p H b dx (fun rg ra => nF rg ra (.rep c m n)) Q
@[irreducible] def spKI (cs : Cs) : Sp := fun vs H Q _ => ∃ (b dx c : Addr) (k : Nat), vs = [.ref b, .int (k : Nat), .ref c] ∧ MadeAt cs.k H b dx (fun rg ra => nF rg ra (.cap k c)) Q
theorem oi_use {b dx ar : Addr} {neg : Bool} (h : MadeAt cs.o H b dx (fun rg ra => nF rg ra (.one ar [] neg)) Q) : spOI cs [.ref b, .ref ar, .bl neg] H Q E := by
  unfold spOI
  exact ⟨b, dx, ar, neg, rfl, h⟩
theorem si_use {b dx : Addr} {z : Str} (h : MadeAt cs.s H b dx (fun rg ra => nF rg ra (.stand z)) Q) : spSI cs [.ref b, .str z] H Q E := by
  unfold spSI
  exact ⟨b, dx, z, rfl, h⟩
theorem ri_use {b dx al : Addr} (h : MadeAt cs.r H b dx (fun rg ra => nF rg ra (.row al [])) Q) : spRI cs [.ref b, .ref al] H Q E := by
  unfold spRI
  exact ⟨b, dx, al, rfl, h⟩
theorem ci_use {b dx al : Addr} (h : MadeAt cs.c H b dx (fun rg ra => nF rg ra (.choice al [])) Q) : spCI cs [.ref b, .ref al] H Q E := by
  unfold spCI
  exact ⟨b, dx, al, rfl, h⟩
theorem pi_use {b dx c : Addr} {m : Nat} {n : Option Nat} (h : MadeAt cs.p H b dx (fun rg ra => nF rg ra (.rep c m n)) Q) : spPI cs [.ref b, .ref c, .int (m : Nat), optN n] H Q E := by
  unfold spPI
  exact ⟨b, dx, c, m, n, rfl, h⟩
theorem ki_use {b dx c : Addr} {k : Nat} (h : MadeAt cs.k H b dx (fun rg ra => nF rg ra (.cap k c)) Q) : spKI cs [.ref b, .int (k : Nat), .ref c] H Q E := by
  unfold spKI
  exact ⟨b, dx, c, k, rfl, h⟩
theorem scOI : FnScope ["self", "ranges", "inverted"] ["self", "ranges", "inverted"] (defScope (sON 0)) := ⟨rfl, rfl, rfl, by decide +kernel, rfl, by decide +kernel, by decide +kernel⟩
theorem scSI : FnScope ["self", "sign"] ["self", "sign"] (defScope (sSN 0)) := ⟨rfl, rfl, rfl, by decide +kernel, rfl, by decide +kernel, by decide +kernel⟩
theorem scRI : FnScope ["self", "steps"] ["self", "steps"] (defScope (sRN 0)) := ⟨rfl, rfl, rfl, by decide +kernel, rfl, by decide +kernel, by decide +kernel⟩
theorem scCI : FnScope ["self", "rows"] ["self", "rows"] (defScope (sCN 0)) := ⟨rfl, rfl, rfl, by decide +kernel, rfl, by decide +kernel, by decide +kernel⟩
theorem scPI : FnScope ["self", "body", "least", "most"] ["self", "body", "least", "most"] (defScope (sPN 0)) := ⟨rfl, rfl, rfl, by decide +kernel, rfl, by decide +kernel, by decide +kernel⟩
theorem scKI : FnScope ["self", "number", "body"] ["self", "number", "body"] (defScope (sKN 0)) := ⟨rfl, rfl, rfl, by decide +kernel, rfl, by decide +kernel, by decide +kernel⟩
theorem kept_new {H0 H1 : Hp} {b x : Addr} {o o2 u : HO} (k : Kept H0 H1 b) (hb : H1 b = some u) (h : H1 x = none) : Kept H0 (upd (upd H1 x o) b o2) b := (k.trans (Kept.of_same (Same.upd h))).trans Kept.upd
theorem ok_oi {f : Addr} {fd : FuncData} (F : Fun K "__init__" "OneValue.__init__" (sON 0) f fd) (T : TxN K cs) : FnOk P w K mg base CX0 1 f fd ["self", "ranges", "inverted"] (spOI cs) := by
  refine F.ok scOI (fun vs H Q E h => ?_) (fun cdv A outer s H vs Q E hr h => ⟨_, pss_cons (ps_fld (pv 0) (pv 1) rfl) (pss_cons (ps_fld (pv 0) (pv 2) rfl) (pss_one (ps_fld (pv 0) (pe_lst pa_nil) rfl))), ?_⟩)
  · unfold spOI at h
    obtain ⟨_, _, _, _, rfl, _⟩ := h
    rfl
  unfold spOI at h
  obtain ⟨b, dx, ar, neg, rfl, hb, hQ⟩ := h
  refine ⟨_, rfl, _, rfl, b, cs.o, dx, _, rfl, hb, T.clo, T.o1, by show 0 < 1000; decide, ?_⟩
  refine ⟨_, rfl, _, rfl, b, cs.o, dx, _, rfl, upd_same, T.clo, T.o2, by show 1 < 1000; decide, ?_⟩
  refine ⟨by show 0 ≤ sizeLine; decide, fun rg hrg => ⟨_, rfl, b, cs.o, dx, _, rfl, (upd_ne (ne_of_none upd_same hrg)).trans upd_same, T.clo, T.o3, by show 2 < 1000; decide, ?_⟩⟩
  refine hQ _ rg rg (upd_same.trans ?_) (kept_new (Kept.upd.trans Kept.upd) upd_same hrg)
  rw [nf2 (by decide +kernel) (by decide +kernel) (by decide +kernel)]
  rfl
theorem ok_si {f : Addr} {fd : FuncData} (F : Fun K "__init__" "Standpoint.__init__" (sSN 0) f fd) (T : TxN K cs) : FnOk P w K mg base CX0 1 f fd ["self", "sign"] (spSI cs) := by
  refine F.ok scSI (fun vs H Q E h => ?_) (fun cdv A outer s H vs Q E hr h => ⟨_, pss_cons (ps_fld (pv 0) (pv 1) rfl) (pss_one (ps_fld (pv 0) (pe_lst pa_nil) rfl)), ?_⟩)
  · unfold spSI at h
    obtain ⟨_, _, _, rfl, _⟩ := h
    rfl
  unfold spSI at h
  obtain ⟨b, dx, z, rfl, hb, hQ⟩ := h
  refine ⟨_, rfl, _, rfl, b, cs.s, dx, _, rfl, hb, T.cls, T.s1, by show 0 < 1000; decide, ?_⟩
  refine ⟨by show 0 ≤ sizeLine; decide, fun rg hrg => ⟨_, rfl, b, cs.s, dx, _, rfl, (upd_ne (ne_of_none upd_same hrg)).trans upd_same, T.cls, T.s2, by show 1 < 1000; decide, ?_⟩⟩
  refine hQ _ rg rg (upd_same.trans ?_) (kept_new Kept.upd upd_same hrg)
  rw [nf1 (by decide +kernel)]
  rfl
theorem ok_ri {f : Addr} {fd : FuncData} (F : Fun K "__init__" "Row.__init__" (sRN 0) f fd) (T : TxN K cs) : FnOk P w K mg base CX0 1 f fd ["self", "steps"] (spRI cs) := by
  refine F.ok scRI (fun vs H Q E h => ?_) (fun cdv A outer s H vs Q E hr h => ⟨_, pss_cons (ps_fld (pv 0) (pv 1) rfl) (pss_cons (ps_fld (pv 0) (pe_lst pa_nil) rfl) (pss_one (ps_fld (pv 0) (pe_lst pa_nil) rfl))), ?_⟩)
  · unfold spRI at h
    obtain ⟨_, _, _, rfl, _⟩ := h
    rfl
  unfold spRI at h
  obtain ⟨b, dx, al, rfl, hb, hQ⟩ := h
  refine ⟨_, rfl, _, rfl, b, cs.r, dx, _, rfl, hb, T.clr, T.r1, by show 0 < 1000; decide, ?_⟩
  refine ⟨by show 0 ≤ sizeLine; decide, fun rg hrg => ⟨_, rfl, b, cs.r, dx, _, rfl, (upd_ne (ne_of_none upd_same hrg)).trans upd_same, T.clr, T.r2, by show 1 < 1000; decide, ?_⟩⟩
  have e2 : putF "reach" (.ref rg) (putF "steps" (.ref al) []) = [(("steps" : Str), V.ref al), (("reach" : Str), V.ref rg)] := nf1 (by decide +kernel)
  rw [e2]
  refine ⟨by show 0 ≤ sizeLine; decide, fun ra hra => ⟨_, rfl, b, cs.r, dx, _, rfl, (upd_ne (ne_of_none upd_same hra)).trans upd_same, T.clr, T.r3, by show 2 < 1000; decide, ?_⟩⟩
  have e3 : putF "reach_after" (.ref ra) [(("steps" : Str), V.ref al), (("reach" : Str), V.ref rg)] = nF rg ra (.row al []) :=
    (put_past (by decide +kernel)).trans (congrArg _ (put_past (by decide +kernel)))
  rw [e3]
  exact hQ _ rg ra upd_same (kept_new (kept_new Kept.upd upd_same hrg) upd_same hra)
theorem ok_ci {f : Addr} {fd : FuncData} (F : Fun K "__init__" "Choice.__init__" (sCN 0) f fd) (T : TxN K cs) : FnOk P w K mg base CX0 1 f fd ["self", "rows"] (spCI cs) := by
  refine F.ok scCI (fun vs H Q E h => ?_) (fun cdv A outer s H vs Q E hr h => ⟨_, pss_cons (ps_fld (pv 0) (pv 1) rfl) (pss_one (ps_fld (pv 0) (pe_lst pa_nil) rfl)), ?_⟩)
  · unfold spCI at h
    obtain ⟨_, _, _, rfl, _⟩ := h
    rfl
  unfold spCI at h
  obtain ⟨b, dx, al, rfl, hb, hQ⟩ := h
  refine ⟨_, rfl, _, rfl, b, cs.c, dx, _, rfl, hb, T.clc, T.c1, by show 0 < 1000; decide, ?_⟩
  refine ⟨by show 0 ≤ sizeLine; decide, fun rg hrg => ⟨_, rfl, b, cs.c, dx, _, rfl, (upd_ne (ne_of_none upd_same hrg)).trans upd_same, T.clc, T.c2, by show 1 < 1000; decide, ?_⟩⟩
  refine hQ _ rg rg (upd_same.trans ?_) (kept_new Kept.upd upd_same hrg)
  rw [nf1 (by decide +kernel)]
  rfl
theorem ok_pi {f : Addr} {fd : FuncData} (F : Fun K "__init__" "Repetition.__init__" (sPN 0) f fd) (T : TxN K cs) : FnOk P w K mg base CX0 1 f fd ["self", "body", "least", "most"] (spPI cs) := by
  refine F.ok scPI (fun vs H Q E h => ?_) (fun cdv A outer s H vs Q E hr h => ⟨_, pss_cons (ps_fld (pv 0) (pv 1) rfl) (pss_cons (ps_fld (pv 0) (pv 2) rfl) (pss_cons (ps_fld (pv 0) (pv 3) rfl) (pss_cons (ps_fld (pv 0) (pe_lst pa_nil) rfl) (pss_one (ps_fld (pv 0) (pe_lst pa_nil) rfl))))), ?_⟩)
  · unfold spPI at h
    obtain ⟨_, _, _, _, _, rfl, _⟩ := h
    rfl
  unfold spPI at h
  obtain ⟨b, dx, c, m, n, rfl, hb, hQ⟩ := h
  refine ⟨_, rfl, _, rfl, b, cs.p, dx, _, rfl, hb, T.clp, T.p1, by show 0 < 1000; decide, ?_⟩
  refine ⟨_, rfl, _, rfl, b, cs.p, dx, _, rfl, upd_same, T.clp, T.p2, by show 1 < 1000; decide, ?_⟩
  refine ⟨_, rfl, _, rfl, b, cs.p, dx, _, rfl, upd_same, T.clp, T.p3, by show 2 < 1000; decide, ?_⟩
  rw [nf2 (by decide +kernel) (by decide +kernel) (by decide +kernel)]
  refine ⟨by show 0 ≤ sizeLine; decide, fun rg hrg => ⟨_, rfl, b, cs.p, dx, _, rfl, (upd_ne (ne_of_none upd_same hrg)).trans upd_same, T.clp, T.p4, by show 3 < 1000; decide, ?_⟩⟩
  have e4 : putF "reach" (.ref rg) [(("body" : Str), V.ref c), (("least" : Str), V.int (m : Nat)), (("most" : Str), optN n)] = [(("body" : Str), V.ref c), (("least" : Str), V.int (m : Nat)), (("most" : Str), optN n), (("reach" : Str), V.ref rg)] :=
    (put_past (by decide +kernel)).trans (congrArg _ ((put_past (by decide +kernel)).trans (congrArg _ (put_past (by decide +kernel)))))
  rw [e4]
  refine ⟨by show 0 ≤ sizeLine; decide, fun ra hra => ⟨_, rfl, b, cs.p, dx, _, rfl, (upd_ne (ne_of_none upd_same hra)).trans upd_same, T.clp, T.p5, by show 4 < 1000; decide, ?_⟩⟩
  have e5 : putF "reach_after" (.ref ra) [(("body" : Str), V.ref c), (("least" : Str), V.int (m : Nat)), (("most" : Str), optN n), (("reach" : Str), V.ref rg)] = nF rg ra (.rep c m n) :=
    (put_past (by decide +kernel)).trans (congrArg _ ((put_past (by decide +kernel)).trans (congrArg _ ((put_past (by decide +kernel)).trans (congrArg _ (put_past (by decide +kernel)))))))
  rw [e5]
  exact hQ _ rg ra upd_same (kept_new (kept_new ((Kept.upd.trans Kept.upd).trans Kept.upd) upd_same hrg) upd_same hra)
theorem ok_ki {f : Addr} {fd : FuncData} (F : Fun K "__init__" "Capture.__init__" (sKN 0) f fd) (T : TxN K cs) : FnOk P w K mg base CX0 1 f fd ["self", "number", "body"] (spKI cs) := by
  refine F.ok scKI (fun vs H Q E h => ?_) (fun cdv A outer s H vs Q E hr h => ⟨_, pss_cons (ps_fld (pv 0) (pv 1) rfl) (pss_cons (ps_fld (pv 0) (pv 2) rfl) (pss_one (ps_fld (pv 0) (pe_lst pa_nil) rfl))), ?_⟩)
  · unfold spKI at h
    obtain ⟨_, _, _, _, rfl, _⟩ := h
    rfl
  unfold spKI at h
  obtain ⟨b, dx, c, k, rfl, hb, hQ⟩ := h
  refine ⟨_, rfl, _, rfl, b, cs.k, dx, _, rfl, hb, T.clk, T.k1, by show 0 < 1000; decide, ?_⟩
  refine ⟨_, rfl, _, rfl, b, cs.k, dx, _, rfl, upd_same, T.clk, T.k2, by show 1 < 1000; decide, ?_⟩
  refine ⟨by show 0 ≤ sizeLine; decide, fun rg hrg => ⟨_, rfl, b, cs.k, dx, _, rfl, (upd_ne (ne_of_none upd_same hrg)).trans upd_same, T.clk, T.k3, by show 2 < 1000; decide, ?_⟩⟩
  refine hQ _ rg rg (upd_same.trans ?_) (kept_new (Kept.upd.trans Kept.upd) upd_same hrg)
  rw [nf2 (by decide +kernel) (by decide +kernel) (by decide +kernel)]
  rfl
end
end Pat
end

section
namespace Pat
open PySem PySem.Spec PyProof.Rows L2
open PySem.FaultX (FaultTxt)
open PatUtf (Fault)
open PatWords (valueP oneP partsP atomP Pat)
open Ways (WF FwdW FitsW FitAll oneWF seqsWF altsWF repWF capWF)
def setW (g : List UInt8) (p : Nat) : Except Fault (Pat × Nat) := match partsP ((g.drop p).length + 1) false [] (if g[p + 1]? = some 94 then p + 2 else p + 1) (g.drop (if g[p + 1]? = some 94 then p + 2 else p + 1)) with
  | .error e => .error e
  | .ok (l, _, q) => .ok (.cls (decide (g[p + 1]? = some 94)) l, q)
def singW (g : List UInt8) (p : Nat) : Except Fault (Pat × Nat) := match atomP 1 0 [] p (g.drop p) with
  | .error e => .error e
  | .ok (x, _, _, q) => .ok (x, q)
theorem parts_close {f : Nat} {acc : List (Nat × Nat)} {g : List UInt8} {p : Nat} (h : g[p]? = some 93) : partsP (f + 1) true acc p (g.drop p) = .ok (acc, g.drop (p + 1), p + 1) := by
  rw [drop_cons h, partsP]
  rfl
theorem parts_first {f : Nat} {g : List UInt8} {p : Nat} (h : g[p]? = some 93) : partsP (f + 1) false [] p (g.drop p) = .error ⟨2, p⟩ ∧ partE g p = .error ⟨2, p⟩ := by
  constructor
  · rw [drop_cons h, partsP]
    rfl
  · have e : oneE zPart g p = .error ⟨2, p⟩ := by
      unfold oneE
      rw [h]
      dsimp only
      rw [if_neg (by decide), if_pos (by decide +kernel)]
    unfold partE
    rw [e]
/-- at most so many ranges -/
theorem escL_len (d : UInt8) : (escL d.toNat).length ≤ 5 := by
  have := u8_all (p := fun c => decide ((escL c.toNat).length ≤ 5)) (by decide +kernel) d
  exact of_decide_eq_true this
theorem oneE_len {z : Str} {g : List UInt8} {p q : Nat} {l : List (Nat × Nat)} (h : oneE z g p = .ok (l, q)) : l.length ≤ 5 := by
  unfold oneE at h
  cases hc : g[p]? with
  | none => rw [hc] at h; cases h
  | some c =>
    rw [hc] at h
    dsimp only at h
    split at h
    · cases hd : g[p + 1]? with
      | none => rw [hd] at h; cases h
      | some d =>
        rw [hd] at h
        dsimp only at h
        split at h
        · cases h
          exact escL_len d
        · cases h
    · split at h
      · cases h
      · cases e : valueP p (g.drop p) with
        | error x => rw [e] at h; cases h
        | ok y =>
          obtain ⟨v, r, q'⟩ := y
          rw [e] at h
          cases h
          exact Nat.le_of_ble_eq_true rfl
theorem partE_len {g : List UInt8} {p q : Nat} {l : List (Nat × Nat)} (h : partE g p = .ok (l, q)) : l.length ≤ 5 := by
  unfold partE at h
  cases e : oneE zPart g p with
  | error x => rw [e] at h; cases h
  | ok y =>
    obtain ⟨x, q'⟩ := y
    have h1 := oneE_len e
    rw [e] at h
    dsimp only at h
    split at h
    · cases e2 : oneE zEnd g (q' + 1) with
      | error x => rw [e2] at h; cases h
      | ok y2 =>
        obtain ⟨x2, k⟩ := y2
        rw [e2] at h
        dsimp only at h
        split at h
        · cases h
        · cases h; exact Nat.le_of_ble_eq_true rfl
    · cases h; exact h1
/-! ### atoms that are made -/
inductive Atm where
  | one (l : List (Nat × Nat)) (neg : Bool)
  | stand (z : Str)
def AtmFits : Atm → Pat → Prop
  | .one l neg, x => FitsW (oneWF l neg) x
  | .stand z, x => (z = "^" ∨ z = "$" ∨ z = "b") ∧ FitsW (standW z) x
/-- a new part that is an atom; its ranges are new, too -/
def AtmNew (K : PySem.W.Frag) (cs : Cs) (H H' : Hp) (v : V) : Atm → Prop
  | .one l neg => ∃ b dx ar rg ra, v = .ref b ∧ H b = none ∧ H ar = none ∧ H' b = some (.ins cs.o dx (nF rg ra (.one ar l neg))) ∧ RgAt K H' ar l
  | .stand z => ∃ b dx rg ra, v = .ref b ∧ H b = none ∧ H' b = some (.ins cs.s dx (nF rg ra (.stand z)))
/-- a class whose objects are made by a call -/
def NOk (P : Program) (w : World) (K : PySem.W.Frag) (mg : Str → Option Value) (base : Heap) (C : Addr) (k : Nat) (x : Str) (ps : List Str) (sp : Sp) : Prop :=
  ∃ f fd, Mk K C f ∧ mg x = some (.ref C) ∧ Binds K fd ps [] ∧ FnOk P w K mg base CX0 k f fd ps sp
/-- a way out with a new atom -/
def RetA (K : PySem.W.Frag) (C CF : Addr) (cs : Cs) (a dx ag an ab : Addr) (H : Hp) (Q : VK) (E : XK) (res : Except Fault (Pat × Nat)) : Prop := match res with
  | .error e => Out CF e E
  | .ok (x, q) => ∀ H' v atm, RAt C H' a dx ag q an ab → Kept H H' a → AtmNew K cs H H' v atm → AtmFits atm x → Q v H'
section
variable {P : Program} {w : World} {K : PySem.W.Frag} {mg : Str → Option Value} {base : Heap} {C CF fI : Addr} {H H1 H2 : Hp} {a dx ag an ab : Addr} {p q : Nat} {g : List UInt8} {z : Str} {Q : VK} {E : XK} {cs : Cs}
theorem RetA.mono {res : Except Fault (Pat × Nat)} {H0 : Hp} {p0 : Nat} (r : RetA K C CF cs a dx ag an ab H0 Q E res) (k : Kept H0 H a) (ha : RAt C H a dx ag p0 an ab) : RetA K C CF cs a dx ag an ab H Q E res := by
  unfold RetA at r ⊢
  cases res with
  | error e => exact r
  | ok y =>
    intro H' v atm r' k' h1 h2
    refine r H' v atm r' (k.trans k') ?_ h2
    cases atm with
    | one l neg =>
      obtain ⟨b, dx, ar, rg, ra, e1, e2, e3, e4⟩ := h1
      exact ⟨b, dx, ar, rg, ra, e1, none_kept k ha e2, none_kept k ha e3, e4⟩
    | stand z =>
      obtain ⟨b, dx, rg, ra, e1, e2, e3⟩ := h1
      exact ⟨b, dx, rg, ra, e1, none_kept k ha e2, e3⟩
theorem made_same {H1 H2 : Hp} {x dxx : Addr} {o o2 : HO} (hx : H1 x = none) (hd : H1 dxx = none) (k : Kept (upd (upd H1 dxx o) x o2) H2 x) : Same H1 H2 := fun b u e => by
  refine k b u ?_ (ne_of_none e hx)
  rw [upd_ne (ne_of_none e hx), upd_ne (ne_of_none e hd)]
  exact e
/-! ### take_set -/
@[irreducible] def spSet (K : PySem.W.Frag) (C CF : Addr) (cs : Cs) : Sp := fun vs H Q E => ∃ (a dx ag : Addr) (p : Nat) (an ab : Addr) (g : List UInt8), vs = [.ref a] ∧ At K C H a dx ag p an ab g ∧ g[p]? = some 91 ∧ RetA K C CF cs a dx ag an ab H Q E (setW g p)
theorem set_use (h : At K C H a dx ag p an ab g) (h91 : g[p]? = some 91) (r : RetA K C CF cs a dx ag an ab H Q E (setW g p)) : spSet K C CF cs [.ref a] H Q E := by
  unfold spSet
  exact ⟨a, dx, ag, p, an, ab, g, rfl, h, h91, r⟩
theorem scSet : FnScope ["self", "inverted", "ranges"] ["self"] (defScope (sR 8)) := ⟨rfl, rfl, rfl, by decide +kernel, rfl, by decide +kernel, by decide +kernel⟩
theorem sameR_app {l l' m m' : List (Nat × Nat)} (h : SameR l l') (k : SameR m m') : SameR (l ++ m) (l' ++ m') := fun x => by
  have h := h x
  have k := k x
  unfold PatWords.inSet at h k ⊢
  rw [List.any_append, List.any_append, h, k]
theorem ok_set {f : Addr} {fd : FuncData} (F : Fun K "take_set" "Reader.take_set" (sR 8) f fd) (T : Txt K mg C CF fI) (M1 : MOk P w K mg base CX0 C 2 "at" ["self", "signs"] (spAt K C))
    (M2 : MOk P w K mg base (L2N.CX P w) C 6 "take_part" ["self"] (spGoR K C CF partE)) (M3 : MOk P w K mg base (L2N.CX P w) C 3 "take" ["self", "signs"] (spTake K C CF))
    (N4 : NOk P w K mg base cs.o 1 "OneValue" ["self", "ranges", "inverted"] (spOI cs)) :
    FnOk P w K mg base (L2N.CX P w) 7 f fd ["self"] (spSet K C CF cs) := by
  obtain ⟨f1, fd1, m1, b1, G1⟩ := M1
  obtain ⟨f2, fd2, m2, b2, G2⟩ := M2
  obtain ⟨f3, fd3, m3, b3, G3⟩ := M3
  obtain ⟨f4, fd4, mk4, gg4, b4, G4⟩ := N4
  refine F.okN scSet (fun vs H Q E h => ?_) (fun cdv A outer s H vs Q E hr h => ⟨_, pss_cons (ps_expr (pe_meth (pv 0) T.cl m3 G3 (hr.mono (by decide)) b3 .nil (L2N.passes_call (L2N.takes_of rfl rfl rfl rfl) (fun _ _ _ _ h => h)) (by exact (pa_cons pe_str pa_nil))))
      (pss_cons (ps_set (i := 1) scSet.nd rfl (Or.inl rfl) (pe_meth (pv 0) T.cl m1 G1 (hr.mono (by decide)) b1 .nil pass0 (by exact (pa_cons pe_str pa_nil))))
      (pss_cons (ps_if (pt_val (pv 1))
        (pss_one (ps_expr (pe_meth (pv 0) T.cl m3 G3 (hr.mono (by decide)) b3 .nil (L2N.passes_call (L2N.takes_of rfl rfl rfl rfl) (fun _ _ _ _ h => h)) (by exact (pa_cons pe_str pa_nil))))) pss_nil)
      (pss_cons (ps_set (i := 2) scSet.nd rfl (Or.inl rfl) (pe_meth0 (pv 0) T.cl m2 G2 hr b2 .nil (L2N.passes_call (L2N.takes_of rfl rfl rfl rfl) (fun _ _ _ _ h => h))))
      (pss_cons (ps_while (passes_of rfl) (pt_not (pt_val (pe_meth (pv 0) T.cl m1 G1 (hr.mono (by decide)) b1 .nil pass0 (pa_cons pe_str pa_nil)))) (pss_one (ps_set (i := 2) scSet.nd rfl (Or.inl rfl) (pe_op op_cat (pv 2) (pe_meth0 (pv 0) T.cl m2 G2 hr b2 .nil (L2N.passes_call (L2N.takes_of rfl rfl rfl rfl) (fun _ _ _ _ h => h)))))))
      (pss_cons (ps_expr (pe_meth (pv 0) T.cl m3 G3 (hr.mono (by decide)) b3 .nil (L2N.passes_call (L2N.takes_of rfl rfl rfl rfl) (fun _ _ _ _ h => h)) (by exact (pa_cons pe_str pa_nil))))
      (pss_one (ps_ret (pe_make mk4 G4 (hr.mono (by decide)) rfl gg4 b4 .nil pass0 (by exact (pa_cons (pv 2) (pa_cons (pv 1) pa_nil))))))))))), ?_⟩)
  · unfold spSet at h
    obtain ⟨_, _, _, _, _, _, _, rfl, _⟩ := h
    rfl
  unfold spSet at h
  obtain ⟨a, dx, ag, p, an, ab, g, rfl, h, h91, hQ⟩ := h
  have hlt := lt_of_some h91
  refine ⟨_, rfl, a, dx, _, rfl, h.1, rF_no (by decide +kernel), ?_⟩
  refine take_use h ?_
  rw [takeE_yes h91 (by decide +kernel)]
  intro H1 r1 k1
  have h1 := h.next r1 k1 (by omega)
  -- the rest from the first part on
  have rest : ∀ (neg : Bool) (p0 : Nat) (H0 : Hp) (v2 : Option V), At K C H0 a dx ag p0 an ab g → Kept H H0 a → p < p0 → RetA K C CF cs a dx ag an ab H Q E (match partsP ((g.drop p).length + 1) false [] p0 (g.drop p0) with
      | .error e => .error e
      | .ok (l, _, q) => .ok (.cls neg l, q)) →
      (tSeq (tAsg (tMeth C "take_part" (spGoR K C CF partE) [] E (tVar 0) tNil) (gName 2)) (tSeq (tWhile (tNot (tB (tMeth C "at" (spAt K C) [] E0 (tVar 0) (tCons (tC (.str "]")) tNil)))) (tAsg (tOp rCat (tVar 2) (tMeth C "take_part" (spGoR K C CF partE) [] E (tVar 0) tNil)) (gName 2)))
        (tSeq (tDrop (tMeth C "take" (spTake K C CF) [] E (tVar 0) (tCons (tC (.str "]")) tNil))) (tRet (tMake cs.o (spOI cs) [] E0 (tCons (tVar 2) (tCons (tVar 1) tNil))))))) { nx := fun _ H' => Q .non H', rt := Q } [some (.ref a), some (.bl neg), v2] H0 := by
    intro neg p0 H0 v2 h0 k0 hp0 hR
    obtain ⟨F0, hF0⟩ : ∃ F0, (g.drop p).length = F0 := ⟨_, rfl⟩
    rw [hF0] at hR
    have hF1 : F0 = g.length - p := by rw [← hF0, List.length_drop]
    refine ⟨_, rfl, a, dx, _, rfl, h0.1, rF_no (by decide +kernel), ?_⟩
    refine goR_use h0 ?_
    -- what one part says of the parts to come
    have part1 : ∀ {s : Bool} {acc : List (Nat × Nat)} {f' q0 : Nat} {H3 : Hp} {N : VK}, (s = true → g[q0]? ≠ some 93) → Kept H H3 a → (g.drop q0).length < f' + 1 →
        RetA K C CF cs a dx ag an ab H Q E (match partsP (f' + 1) s acc q0 (g.drop q0) with
          | .error e => .error e
          | .ok (l, _, q) => .ok (.cls neg l, q)) → (s = false → acc = []) →
        (∀ q1 l l' H4 v, q0 < q1 → q1 ≤ g.length → RAt C H4 a dx ag q1 an ab → Kept H3 H4 a → (g.drop q1).length < f' → RgNew K H3 H4 v l → l.length ≤ 5 → SameR l l' → RetA K C CF cs a dx ag an ab H Q E (match partsP f' true (acc ++ l') q1 (g.drop q1) with
          | .error e => .error e
          | .ok (l, _, q) => .ok (.cls neg l, q)) → N v H4) → RetR K C CF a dx ag an ab H3 N E (partE g q0) := by
      intro s acc f' q0 H3 N hs k3 hf hR3 hs2 hN
      by_cases c93 : g[q0]? = some 93
      · cases s with
        | true => exact absurd c93 (hs rfl)
        | false =>
          obtain ⟨e1, e2⟩ := parts_first (f := f') c93
          rw [hs2 rfl, e1] at hR3
          rw [e2]
          exact hR3
      · have pp := parts_part (f := f') (s := s) (acc := acc) (g := g) (p := q0) (fun c hc e => c93 (by rw [hc, e]))
        cases ep : partE g q0 with
        | error e =>
          rw [ep] at pp
          dsimp only at pp
          rw [pp] at hR3
          exact hR3
        | ok y =>
          obtain ⟨l, q1⟩ := y
          rw [ep] at pp
          obtain ⟨l', sl, pp⟩ := pp
          obtain ⟨l1, l2⟩ := partE_ok ep
          rw [pp] at hR3
          intro H4 v r4 k4 rn
          refine hN q1 l l' H4 v l1 l2 r4 k4 ?_ rn (partE_len ep) sl hR3
          rw [List.length_drop] at hf ⊢
          omega
    refine part1 (f' := F0) (s := false) (acc := []) (fun e => nomatch e) k0 (by rw [List.length_drop]; omega) hR (fun _ => rfl) ?_
    rintro q1 l1 l1' H4 _ l1a l2 r4 k4 hf4 ⟨ar4, rfl, har4, hrg4⟩ hl5 sl1 hR4
    rw [List.nil_append] at hR4
    have h4 := h0.next r4 k4 l2
    refine ⟨fun m σ H' => ∃ (q : Nat) (f' : Nat) (acc l : List (Nat × Nat)) (ar : Addr), m = g.length - q ∧ σ = [some (.ref a), some (.bl neg), some (.ref ar)] ∧ At K C H' a dx ag q an ab g ∧ Kept H H' a ∧ (g.drop q).length < f' ∧ H ar = none ∧ RgAt K H' ar l ∧ SameR l acc ∧ l.length ≤ 5 * q ∧ RetA K C CF cs a dx ag an ab H Q E (match partsP f' true acc q (g.drop q) with
          | .error e => .error e
          | .ok (l, _, q) => .ok (.cls neg l, q)), ⟨_, q1, F0, l1', l1, ar4, rfl, rfl, h4, k0.trans k4, hf4, none_kept k0 h0.1 har4, hrg4, sl1, by omega, hR4⟩, ?_⟩
    rintro m σ H5 ⟨q, f', acc, l, ar, rfl, rfl, h5, k5, hf5, har, hrg, sl, hl, hR5⟩
    obtain ⟨f'', rfl⟩ : ∃ f'', f' = f'' + 1 := ⟨f' - 1, by omega⟩
    refine ⟨_, rfl, a, dx, _, rfl, h5.1, rF_no (by decide +kernel), ?_⟩
    refine at_use h5 (by decide +kernel) fun H6 s6 => ?_
    have h6 := h5.same s6
    have k6 := k5.trans (Kept.of_same s6)
    have hrg6 := hrg.same s6
    refine ⟨_, rfl, ?_⟩
    by_cases c93 : g[q]? = some 93
    · refine if_false_of (by rw [isAt_some c93]; decide +kernel) ?_
      refine ⟨_, rfl, a, dx, _, rfl, h6.1, rF_no (by decide +kernel), ?_⟩
      refine take_use h6 ?_
      rw [takeE_yes c93 (by decide +kernel)]
      rw [parts_close c93] at hR5
      have hR5' : ∀ H' v atm, RAt C H' a dx ag (q + 1) an ab → Kept H H' a → AtmNew K cs H H' v atm → AtmFits atm (.cls neg acc) → Q v H' := hR5
      intro H7 r7 k7
      have k17 := k6.trans k7
      have hrg7 := hrg6.kept h6.1 k7
      refine ⟨_, rfl, _, rfl, fun x dxx hx hdx hne => ?_⟩
      refine oi_use ⟨upd_same, fun H8 rg ra hb8 k8 => ⟨rfl, ?_⟩⟩
      have s8 := made_same hx hdx k8
      exact hR5' H8 (.ref x) (.one l neg) (s8 _ _ r7) (k17.trans (Kept.of_same s8)) ⟨x, dxx, ar, rg, ra, rfl, none_kept k17 r7 hx, har, hb8, hrg7.same s8⟩ (Ways.fits_cls sl)
    · have e93 : isAt g q "]" = false := by
        cases e : g[q]? with
        | none => exact isAt_none e
        | some d =>
          rw [isAt_some e, at_sign (n := 93) (by decide +kernel)]
          exact decide_eq_false fun x => c93 (by rw [e, x])
      rw [e93]
      refine if_true_of rfl ⟨fun σ' H' => ∃ q', q < q' ∧ q' ≤ g.length ∧ ∃ (f' : Nat) (acc l : List (Nat × Nat)) (ar : Addr), σ' = [some (.ref a), some (.bl neg), some (.ref ar)] ∧ At K C H' a dx ag q' an ab g ∧ Kept H H' a ∧ (g.drop q').length < f' ∧ H ar = none ∧ RgAt K H' ar l ∧ SameR l acc ∧ l.length ≤ 5 * q' ∧ RetA K C CF cs a dx ag an ab H Q E (match partsP f' true acc q' (g.drop q') with
          | .error e => .error e
          | .ok (l, _, q) => .ok (.cls neg l, q)), ?_, ?_⟩
      · rintro σ' H' ⟨q', l1, l2, f3, acc3, l3, ar3, rfl, h7, k7, hf7, x1, x2, x3, x4, hR7⟩
        exact ⟨g.length - q', by omega, q', f3, acc3, l3, ar3, rfl, rfl, h7, k7, hf7, x1, x2, x3, x4, hR7⟩
      · refine ⟨_, rfl, _, rfl, a, dx, _, rfl, h6.1, rF_no (by decide +kernel), ?_⟩
        refine goR_use h6 ?_
        refine part1 (f' := f'') (s := true) (acc := acc) (fun _ => c93) k6 hf5 hR5 (fun e => nomatch e) ?_
        rintro q2 l2 l2' H8 _ l3 l4 r8 k8 hf8 ⟨ar8, rfl, har8, ts8, hts8, htu8⟩ hl8 sl8 hR8
        obtain ⟨ts6, hts6, htu6⟩ := hrg6.kept h6.1 k8
        have el6 := htu6.len
        have el8 := htu8.len
        have hg1000 := h6.2.2.2
        refine ⟨ar, ar8, _, _, rfl, rfl, hts6, hts8, ?_, fun z hz => ?_⟩
        · rw [List.length_map, List.length_map]
          exact Nat.le_trans (by omega : ts6.length + ts8.length ≤ 10000) (by decide)
        · have h8 := (h6.next r8 k8 l4).same (Same.upd hz (o := HO.lst (ts6.map V.ref ++ ts8.map V.ref)))
          have k18 := k6.trans k8
          refine ⟨q2, l3, l4, f'', acc ++ l2', l ++ l2, z, rfl, h8, k18.trans (Kept.of_same (Same.upd hz)), hf8, none_kept k18 r8 hz, ⟨ts6 ++ ts8, ?_, ?_⟩, sameR_app sl sl8, ?_, hR8⟩
          · rw [upd_same, List.map_append]
          · exact Tups.map (fun _ _ e => sqt_same' e (Same.upd hz)) (Tups.app htu6 htu8)
          · rw [List.length_append]
            omega
  -- [^ or [
  refine ⟨_, rfl, a, dx, _, rfl, h1.1, rF_no (by decide +kernel), ?_⟩
  refine at_use h1 (by decide +kernel) fun H2 s2 => ?_
  have h2 := h1.same s2
  have k2 := k1.trans (Kept.of_same s2)
  refine ⟨_, rfl, _, rfl, ?_⟩
  unfold setW at hQ
  by_cases c94 : g[p + 1]? = some 94
  · rw [if_pos c94, decide_eq_true c94] at hQ
    have hlt2 := lt_of_some c94
    have e94 : isAt g (p + 1) "^" = true := by rw [isAt_some c94]; decide +kernel
    rw [e94]
    refine if_true_of rfl ?_
    refine ⟨_, rfl, a, dx, _, rfl, h2.1, rF_no (by decide +kernel), ?_⟩
    refine take_use h2 ?_
    rw [takeE_yes c94 (by decide +kernel)]
    intro H3 r3 k3
    exact rest true (p + 2) H3 _ (h2.next r3 k3 (by omega)) (k2.trans k3) (by omega) hQ
  · rw [if_neg c94, decide_eq_false c94] at hQ
    have e94 : isAt g (p + 1) "^" = false := by
      cases e : g[p + 1]? with
      | none => exact isAt_none e
      | some d =>
        rw [isAt_some e, at_sign (n := 94) (by decide +kernel)]
        exact decide_eq_false fun x => c94 (by rw [e, x])
    rw [e94]
    refine if_false_of rfl ?_
    exact rest false (p + 1) H2 _ h2 k2 (by omega) hQ
end
end Pat
end

section
namespace Pat
open PySem PySem.Spec PyProof.Rows L2
open PySem.FaultX (FaultTxt)
open PatUtf (Fault)
open PatWords (valueP oneP partsP atomP timesP repP Pat)
open Ways (WF FwdW FitsW FitAll oneWF seqsWF altsWF repWF capWF)
theorem sing_set {g : List UInt8} {p : Nat} (h : g[p]? = some 91) : singW g p = setW g p := by
  unfold singW setW
  rw [drop_cons h, atomP.eq_def 1]
  cases hd : g[p + 1]? with
  | none =>
    rw [if_neg (fun x => nomatch x), drop_none hd]
    rfl
  | some d =>
    rw [drop_cons hd]
    by_cases c : d = 94
    · subst c
      rw [if_pos rfl]
      simp only [(by decide : ¬ (91 : UInt8) = 46), (by decide : ¬ (91 : UInt8) = 94), (by decide : ¬ (91 : UInt8) = 36), (by decide : ¬ (91 : UInt8) = 92), if_false, if_true]
      cases partsP ((91 :: 94 :: g.drop (p + 1 + 1)).length + 1) false [] (p + 2) (g.drop (p + 1 + 1)) with
      | error e => rfl
      | ok y => rfl
    · rw [if_neg (fun x => c (Option.some.inj x)), decide_eq_false (fun x => c (Option.some.inj x))]
      simp only [(by decide : ¬ (91 : UInt8) = 46), (by decide : ¬ (91 : UInt8) = 94), (by decide : ¬ (91 : UInt8) = 36), (by decide : ¬ (91 : UInt8) = 92), if_false, if_true, c]
      rw [← drop_cons hd]
      cases partsP ((91 :: g.drop (p + 1)).length + 1) false [] (p + 1) (g.drop (p + 1)) with
      | error e => rfl
      | ok y => rfl
/-- what stands for itself or for a set behind a backslash -/
def escAtm (d : Nat) : Atm := if d = 98 then .stand "b" else .one (escL d) false
theorem stand_b : FitsW (standW "b") .edge := fun t _ i _ => by
  refine Ways.Eqv.of_eq ?_
  unfold standW
  rw [if_neg (by decide +kernel), if_neg (by decide +kernel), Ways.allW]
theorem stand_1 : FitsW (standW "^") .first := fun t _ i _ => by
  refine Ways.Eqv.of_eq ?_
  unfold standW
  rw [if_pos rfl, Ways.allW]
theorem stand_2 : FitsW (standW "$") .last := fun t _ i _ => by
  refine Ways.Eqv.of_eq ?_
  unfold standW
  rw [if_neg (by decide +kernel), if_pos rfl, Ways.allW]
theorem sing_esc {g : List UInt8} {p : Nat} (h : g[p]? = some 92) : match escT zAtom g p with
    | .error e => singW g p = .error e
    | .ok (d, q) => ∃ x, singW g p = .ok (x, q) ∧ AtmFits (escAtm d) x := by
  unfold singW escT
  rw [drop_cons h, atomP.eq_def 1]
  simp only [(by decide : ¬ (92 : UInt8) = 46), (by decide : ¬ (92 : UInt8) = 94), (by decide : ¬ (92 : UInt8) = 36), if_false, if_true]
  cases hd : g[p + 1]? with
  | none =>
    rw [drop_none hd]
  | some d =>
    rw [drop_cons hd]
    dsimp only
    have hb := escB_all d
    unfold escB at hb
    rw [← classOf_is] at hb
    have h98 : d.toNat = 98 ↔ d = 98 := u8_eq (by decide)
    cases e1 : PatWords.classOf d with
    | some l =>
      rw [e1] at hb
      simp only [Bool.and_eq_true, Bool.not_eq_true', beq_iff_eq, bne_iff_ne] at hb
      have n98 : ¬ d = 98 := hb.2.2.2.2.1
      rw [if_pos hb.2.2.1]
      rw [if_neg n98]
      refine ⟨_, rfl, ?_⟩
      unfold escAtm
      rw [if_neg (fun x => n98 (h98.mp x))]
      exact Ways.fits_cls (cls_same e1)
    | none =>
      rw [e1] at hb
      cases e2 : PatWords.escapedOf d with
      | some x =>
        rw [e2] at hb
        simp only [Bool.and_eq_true, Bool.not_eq_true', beq_iff_eq, bne_iff_ne] at hb
        have n98 : ¬ d = 98 := hb.2.2.2.2.2
        rw [if_pos hb.2.2.1]
        rw [if_neg n98]
        refine ⟨_, rfl, ?_⟩
        unfold escAtm escL
        rw [if_neg (fun x => n98 (h98.mp x)), if_neg (by rw [hb.2.2.2.1]; exact Bool.false_ne_true), hb.2.2.2.2.1]
        exact Ways.fits_cls fun _ => rfl
      | none =>
        rw [e2] at hb
        simp only [Bool.and_eq_true, Bool.not_eq_true', beq_iff_eq] at hb
        rw [hb.2.2]
        by_cases c : d = 98
        · rw [if_pos (beq_iff_eq.mpr c)]
          rw [if_pos c]
          refine ⟨_, rfl, ?_⟩
          unfold escAtm
          rw [if_pos (h98.mpr c)]
          exact ⟨.inr (.inr rfl), stand_b⟩
        · rw [if_neg (by simpa using c)]
          rw [if_neg c]
theorem sing_dot {g : List UInt8} {p : Nat} (h : g[p]? = some 46) : singW g p = .ok (.any, p + 1) := by
  unfold singW
  rw [drop_cons h, atomP.eq_def 1]
  rfl
theorem sing_1 {g : List UInt8} {p : Nat} (h : g[p]? = some 94) : singW g p = .ok (.first, p + 1) := by
  unfold singW
  rw [drop_cons h, atomP.eq_def 1]
  rfl
theorem sing_2 {g : List UInt8} {p : Nat} (h : g[p]? = some 36) : singW g p = .ok (.last, p + 1) := by
  unfold singW
  rw [drop_cons h, atomP.eq_def 1]
  rfl
theorem sing_plain {g : List UInt8} {p : Nat} {c : UInt8} (h : g[p]? = some c) (h1 : c ≠ 40) (h2 : c ≠ 60) (h3 : c ≠ 91) (h4 : c ≠ 92) (h5 : ¬ (c = 46 ∨ c = 94 ∨ c = 36)) :
    match plainE zSigns g p with
      | .error e => singW g p = .error e
      | .ok (l, q) => ∃ x, singW g p = .ok (x, q) ∧ FitsW (oneWF l false) x := by
  have h6 : c ≠ 46 := fun x => h5 (.inl x)
  have h7 : c ≠ 94 := fun x => h5 (.inr (.inl x))
  have h8 : c ≠ 36 := fun x => h5 (.inr (.inr x))
  unfold singW plainE
  rw [drop_cons h, atomP.eq_def 1, h]
  simp only [h1, h2, h3, h4, h6, h7, h8, if_false]
  rw [out_signs]
  by_cases hs : PatWords.signs.contains c = true
  · rw [if_pos hs]
    rw [if_pos hs]
  · rw [if_neg hs]
    rw [if_neg hs]
    cases valueP p (c :: g.drop (p + 1)) with
    | error e => rfl
    | ok y =>
      obtain ⟨v, r, q⟩ := y
      exact ⟨_, rfl, Ways.fits_cls fun _ => rfl⟩
theorem at_ends (c : UInt8) : (cds "^$").contains c.toNat = (decide (c = 94) || decide (c = 36)) :=
  beq_iff_eq.mp (u8_all (p := fun c => (cds "^$").contains c.toNat == (decide (c = 94) || decide (c = 36))) (by decide +kernel) c)
section
variable {P : Program} {w : World} {K : PySem.W.Frag} {mg : Str → Option Value} {base : Heap} {C CF fI : Addr} {H H1 H2 : Hp} {a dx ag an ab : Addr} {p q : Nat} {g : List UInt8} {z : Str} {Q : VK} {E : XK} {cs : Cs}
/-! ### take_escaped_atom -/
@[irreducible] def spEscA (K : PySem.W.Frag) (C CF : Addr) (cs : Cs) : Sp := fun vs H Q E => ∃ (a dx ag : Addr) (p : Nat) (an ab : Addr) (g : List UInt8), vs = [.ref a] ∧ At K C H a dx ag p an ab g ∧ g[p]? = some 92 ∧ RetA K C CF cs a dx ag an ab H Q E (singW g p)
theorem escA_use (h : At K C H a dx ag p an ab g) (h92 : g[p]? = some 92) (r : RetA K C CF cs a dx ag an ab H Q E (singW g p)) : spEscA K C CF cs [.ref a] H Q E := by
  unfold spEscA
  exact ⟨a, dx, ag, p, an, ab, g, rfl, h, h92, r⟩
theorem scEscA : FnScope ["self", "sign"] ["self"] (defScope (sR 9)) := ⟨rfl, rfl, rfl, by decide +kernel, rfl, by decide +kernel, by decide +kernel⟩
theorem ok_escA {f : Addr} {fd : FuncData} (F : Fun K "take_escaped_atom" "Reader.take_escaped_atom" (sR 9) f fd) (T : Txt K mg C CF fI) (hS1 : ∃ t, mg "ATOM_ESCAPES" = some (.str zAtom t))
    (M1 : MOk P w K mg base (L2N.CX P w) C 4 "take_escape" ["self", "escapes"] (spEscape K C CF)) (G2 : GOk P w K mg base CX0 4 "escape_ranges" ["sign"] (spEsc K))
    (N3 : NOk P w K mg base cs.o 1 "OneValue" ["self", "ranges", "inverted"] (spOI cs)) (N4 : NOk P w K mg base cs.s 1 "Standpoint" ["self", "sign"] (spSI cs)) :
    FnOk P w K mg base (L2N.CX P w) 5 f fd ["self"] (spEscA K C CF cs) := by
  obtain ⟨f1, fd1, m1, b1, G1⟩ := M1
  obtain ⟨f2, fd2, gg2, k2, b2, G2⟩ := G2
  obtain ⟨f3, fd3, mk3, gg3, b3, G3⟩ := N3
  obtain ⟨f4, fd4, mk4, gg4, b4, G4⟩ := N4
  refine F.okN scEscA (fun vs H Q E h => ?_) (fun cdv A outer s H vs Q E hr h => ⟨_, pss_cons (ps_set (i := 1) scEscA.nd rfl (Or.inl rfl) (pe_meth (pv 0) T.cl m1 G1 hr b1 .nil (L2N.passes_call (L2N.takes_of rfl rfl rfl rfl) (fun _ _ _ _ h => h)) (by exact (pa_cons (pe_gs hS1) pa_nil))))
      (pss_cons (ps_if (pt_cmpR op_eq (pv 1) pe_str (nomark _)) (pss_one (ps_ret (pe_make mk4 G4 (hr.mono (by decide)) rfl gg4 b4 .nil pass0 (by exact (pa_cons (pv 1) pa_nil))))) pss_nil)
      (pss_one (ps_ret (pe_make mk3 G3 (hr.mono (by decide)) rfl gg3 b3 .nil pass0 (by exact (pa_cons (pe_call G2 hr rfl gg2 k2 b2 .nil pass0 (by exact (pa_cons (pv 1) pa_nil))) (pa_cons pe_bl pa_nil))))))), ?_⟩)
  · unfold spEscA at h
    obtain ⟨_, _, _, _, _, _, _, rfl, _⟩ := h
    rfl
  unfold spEscA at h
  obtain ⟨a, dx, ag, p, an, ab, g, rfl, h, h92, hQ⟩ := h
  refine ⟨_, rfl, a, dx, _, rfl, h.1, rF_no (by decide +kernel), ?_⟩
  refine escape_use h h92 ?_
  have se := sing_esc h92
  cases e : escT zAtom g p with
  | error x =>
    rw [e] at se
    dsimp only at se
    rw [se] at hQ
    exact hQ
  | ok y =>
    obtain ⟨d, q⟩ := y
    rw [e] at se
    obtain ⟨x, e2, fx⟩ := se
    rw [e2] at hQ
    have hQ' : ∀ H' v atm, RAt C H' a dx ag q an ab → Kept H H' a → AtmNew K cs H H' v atm → AtmFits atm x → Q v H' := hQ
    intro H1 r1 k1
    refine ⟨_, rfl, rfl, _, rfl, ?_⟩
    unfold escAtm at fx
    by_cases c98 : d = 98
    · rw [if_pos c98] at fx
      refine if_true_of (by rw [c98]; decide +kernel) ?_
      refine ⟨_, rfl, fun x dxx hx hdx hne => ?_⟩
      have ez : sg d = "b" := by rw [c98]; decide +kernel
      refine si_use ⟨upd_same, fun H8 rg ra hb8 k8 => ⟨rfl, ?_⟩⟩
      have s8 := made_same hx hdx k8
      rw [ez] at hb8
      exact hQ' H8 _ (.stand "b") (s8 _ _ r1) (k1.trans (Kept.of_same s8)) ⟨x, dxx, rg, ra, rfl, none_kept k1 r1 hx, hb8⟩ fx
    · rw [if_neg c98] at fx
      refine if_false_of (decide_eq_false fun e => c98 ?_) ?_
      · injection e with e
        have e := congrArg Str.cps e
        have e3 : (#[d] : Array Nat) = #[98] := e.trans (by decide +kernel)
        simpa using e3
      refine ⟨_, rfl, ?_⟩
      refine esc_use ?_
      rintro H2 _ s2 ⟨ar, rfl, har, hrg⟩
      intro x dxx hx hdx hne
      refine oi_use ⟨upd_same, fun H8 rg ra hb8 k8 => ⟨rfl, ?_⟩⟩
      have s8 := Same.trans s2 (made_same hx hdx k8)
      exact hQ' H8 _ (.one (escL d) false) (s8 _ _ r1) (k1.trans (Kept.of_same s8)) ⟨x, dxx, ar, rg, ra, rfl, none_kept k1 r1 (none_same s2 hx), none_kept k1 r1 har, hb8, hrg.same (made_same hx hdx k8)⟩ fx
/-! ### take_single_atom -/
@[irreducible] def spSingle (K : PySem.W.Frag) (C CF : Addr) (cs : Cs) : Sp := fun vs H Q E => ∃ (a dx ag : Addr) (p : Nat) (an ab : Addr) (g : List UInt8) (c : UInt8), vs = [.ref a] ∧ At K C H a dx ag p an ab g ∧ g[p]? = some c ∧ c ≠ 40 ∧ c ≠ 60 ∧ RetA K C CF cs a dx ag an ab H Q E (singW g p)
theorem single_use {c : UInt8} (h : At K C H a dx ag p an ab g) (hc : g[p]? = some c) (h1 : c ≠ 40) (h2 : c ≠ 60) (r : RetA K C CF cs a dx ag an ab H Q E (singW g p)) : spSingle K C CF cs [.ref a] H Q E := by
  unfold spSingle
  exact ⟨a, dx, ag, p, an, ab, g, c, rfl, h, hc, h1, h2, r⟩
theorem scSingle : FnScope ["self"] ["self"] (defScope (sR 10)) := ⟨rfl, rfl, rfl, by decide +kernel, rfl, by decide +kernel, by decide +kernel⟩
theorem ok_single {f : Addr} {fd : FuncData} (F : Fun K "take_single_atom" "Reader.take_single_atom" (sR 10) f fd) (T : Txt K mg C CF fI) (hS2 : ∃ t, mg "SIGNS" = some (.str zSigns t))
    (M1 : MOk P w K mg base CX0 C 2 "at" ["self", "signs"] (spAt K C)) (M2 : MOk P w K mg base (L2N.CX P w) C 7 "take_set" ["self"] (spSet K C CF cs))
    (M3 : MOk P w K mg base (L2N.CX P w) C 5 "take_escaped_atom" ["self"] (spEscA K C CF cs)) (M4 : MOk P w K mg base (L2N.CX P w) C 3 "take" ["self", "signs"] (spTake K C CF))
    (M5 : MOk P w K mg base (L2N.CX P w) C 4 "take_plain" ["self", "barred"] (spPlain K C CF)) (G6 : GOk P w K mg base CX0 2 "every_value" [] (spEvery K))
    (N3 : NOk P w K mg base cs.o 1 "OneValue" ["self", "ranges", "inverted"] (spOI cs)) (N4 : NOk P w K mg base cs.s 1 "Standpoint" ["self", "sign"] (spSI cs)) :
    FnOk P w K mg base (L2N.CX P w) 8 f fd ["self"] (spSingle K C CF cs) := by
  obtain ⟨f1, fd1, m1, b1, G1⟩ := M1
  obtain ⟨f2, fd2, m2, b2, G2⟩ := M2
  obtain ⟨f3, fd3, m3, b3, G3⟩ := M3
  obtain ⟨f4, fd4, m4, b4, G4⟩ := M4
  obtain ⟨f5, fd5, m5, b5, G5⟩ := M5
  obtain ⟨f6, fd6, gg6, k6, b6, G6⟩ := G6
  obtain ⟨f7, fd7, mk7, gg7, b7, G7⟩ := N3
  obtain ⟨f8, fd8, mk8, gg8, b8, G8⟩ := N4
  refine F.okN scSingle (fun vs H Q E h => ?_) (fun cdv A outer s H vs Q E hr h => ⟨_, pss_cons (ps_if (pt_val (pe_meth (pv 0) T.cl m1 G1 (hr.mono (by decide)) b1 .nil pass0 (pa_cons pe_str pa_nil)))
        (pss_one (ps_ret (pe_meth0 (pv 0) T.cl m2 G2 hr b2 .nil (L2N.passes_call (L2N.takes_of rfl rfl rfl rfl) (fun _ _ _ _ h => h))))) pss_nil)
      (pss_cons (ps_if (pt_val (pe_meth (pv 0) T.cl m1 G1 (hr.mono (by decide)) b1 .nil pass0 (pa_cons pe_str pa_nil)))
        (pss_one (ps_ret (pe_meth0 (pv 0) T.cl m3 G3 (hr.mono (by decide)) b3 .nil (L2N.passes_call (L2N.takes_of rfl rfl rfl rfl) (fun _ _ _ _ h => h))))) pss_nil)
      (pss_cons (ps_if (pt_val (pe_meth (pv 0) T.cl m1 G1 (hr.mono (by decide)) b1 .nil pass0 (pa_cons pe_str pa_nil)))
        (pss_one (ps_ret (pe_make mk8 G8 (hr.mono (by decide)) rfl gg8 b8 .nil pass0 (by exact (pa_cons (pe_meth (pv 0) T.cl m4 G4 (hr.mono (by decide)) b4 .nil (L2N.passes_call (L2N.takes_of rfl rfl rfl rfl) (fun _ _ _ _ h => h)) (by exact (pa_cons pe_str pa_nil))) pa_nil))))) pss_nil)
      (pss_cons (ps_if (pt_val (pe_meth (pv 0) T.cl m1 G1 (hr.mono (by decide)) b1 .nil pass0 (pa_cons pe_str pa_nil)))
        (pss_cons (ps_expr (pe_meth (pv 0) T.cl m4 G4 (hr.mono (by decide)) b4 .nil (L2N.passes_call (L2N.takes_of rfl rfl rfl rfl) (fun _ _ _ _ h => h)) (by exact (pa_cons pe_str pa_nil))))
          (pss_one (ps_ret (pe_make mk7 G7 (hr.mono (by decide)) rfl gg7 b7 .nil pass0 (by exact (pa_cons (pe_call0 G6 (hr.mono (by decide)) rfl gg6 k6 b6 .nil pass0) (pa_cons pe_bl pa_nil))))))) pss_nil)
      (pss_one (ps_ret (pe_make mk7 G7 (hr.mono (by decide)) rfl gg7 b7 .nil pass0 (by exact (pa_cons (pe_meth (pv 0) T.cl m5 G5 (hr.mono (by decide)) b5 .nil (L2N.passes_call (L2N.takes_of rfl rfl rfl rfl) (fun _ _ _ _ h => h)) (by exact (pa_cons (pe_gs hS2) pa_nil))) (pa_cons pe_bl pa_nil))))))))), ?_⟩)
  · unfold spSingle at h
    obtain ⟨_, _, _, _, _, _, _, _, rfl, _⟩ := h
    rfl
  unfold spSingle at h
  obtain ⟨a, dx, ag, p, an, ab, g, c, rfl, h, hc, hc1, hc2, hQ⟩ := h
  have hlt := lt_of_some hc
  refine ⟨_, rfl, a, dx, _, rfl, h.1, rF_no (by decide +kernel), ?_⟩
  refine at_use h (by decide +kernel) fun H1 s1 => ?_
  have h1 := h.same s1
  have hQ := RetA.mono hQ (Kept.of_same s1) h1.1
  refine ⟨_, rfl, ?_⟩
  rw [isAt_some hc, at_sign (n := 91) (by decide +kernel)]
  by_cases c91 : c = 91
  · subst c91
    refine if_true_of rfl ?_
    refine ⟨_, rfl, a, dx, _, rfl, h1.1, rF_no (by decide +kernel), ?_⟩
    rw [sing_set hc] at hQ
    exact set_use h1 hc hQ
  refine if_false_of (decide_eq_false c91) ?_
  refine ⟨_, rfl, a, dx, _, rfl, h1.1, rF_no (by decide +kernel), ?_⟩
  refine at_use h1 (by decide +kernel) fun H2 s2 => ?_
  have h2 := h1.same s2
  have hQ := RetA.mono hQ (Kept.of_same s2) h2.1
  refine ⟨_, rfl, ?_⟩
  rw [isAt_some hc, at_sign (n := 92) (by decide +kernel)]
  by_cases c92 : c = 92
  · subst c92
    refine if_true_of rfl ?_
    refine ⟨_, rfl, a, dx, _, rfl, h2.1, rF_no (by decide +kernel), ?_⟩
    exact escA_use h2 hc hQ
  refine if_false_of (decide_eq_false c92) ?_
  refine ⟨_, rfl, a, dx, _, rfl, h2.1, rF_no (by decide +kernel), ?_⟩
  refine at_use h2 (by decide +kernel) fun H3 s3 => ?_
  have h3 := h2.same s3
  have hQ := RetA.mono hQ (Kept.of_same s3) h3.1
  refine ⟨_, rfl, ?_⟩
  rw [isAt_some hc, at_ends]
  -- one of the two signs
  have stand : ∀ (z : Str) (x : Pat), (z = "^" ∨ z = "$" ∨ z = "b") → sg c.toNat = z → FitsW (standW z) x → (cds "^$").contains c.toNat = true → singW g p = .ok (x, p + 1) →
      tRet (tMake cs.s (spSI cs) [] E0 (tCons (tMeth C "take" (spTake K C CF) [] E (tVar 0) (tCons (tC (.str "^$")) tNil)) tNil)) { nx := fun _ H' => Q .non H', rt := Q } [some (.ref a)] H3 := by
    intro z x hz ez fz hcz e1
    rw [e1] at hQ
    have hQ' : ∀ H' v atm, RAt C H' a dx ag (p + 1) an ab → Kept H3 H' a → AtmNew K cs H3 H' v atm → AtmFits atm x → Q v H' := hQ
    refine ⟨_, rfl, a, dx, _, rfl, h3.1, rF_no (by decide +kernel), ?_⟩
    refine take_use h3 ?_
    rw [takeE_yes hc hcz, ez]
    intro H4 r4 k4 y dxx hx hdx hne
    refine si_use ⟨upd_same, fun H8 rg ra hb8 k8 => ⟨rfl, ?_⟩⟩
    have s8 := made_same hx hdx k8
    exact hQ' H8 _ (.stand z) (s8 _ _ r4) (k4.trans (Kept.of_same s8)) ⟨y, dxx, rg, ra, rfl, none_kept k4 r4 hx, hb8⟩ ⟨hz, fz⟩
  by_cases c94 : c = 94
  · subst c94
    refine if_true_of rfl ?_
    exact stand "^" .first (.inl rfl) (by decide +kernel) stand_1 (by rw [at_ends]; rfl) (sing_1 hc)
  by_cases c36 : c = 36
  · subst c36
    refine if_true_of rfl ?_
    exact stand "$" .last (.inr (.inl rfl)) (by decide +kernel) stand_2 (by rw [at_ends]; rfl) (sing_2 hc)
  rw [decide_eq_false c94, decide_eq_false c36]
  refine if_false_of rfl ?_
  refine ⟨_, rfl, a, dx, _, rfl, h3.1, rF_no (by decide +kernel), ?_⟩
  refine at_use h3 (by decide +kernel) fun H4 s4 => ?_
  have h4 := h3.same s4
  have hQ := RetA.mono hQ (Kept.of_same s4) h4.1
  refine ⟨_, rfl, ?_⟩
  rw [isAt_some hc, at_sign (n := 46) (by decide +kernel)]
  by_cases c46 : c = 46
  · subst c46
    refine if_true_of rfl ?_
    rw [sing_dot hc] at hQ
    have hQ' : ∀ H' v atm, RAt C H' a dx ag (p + 1) an ab → Kept H4 H' a → AtmNew K cs H4 H' v atm → AtmFits atm .any → Q v H' := hQ
    refine ⟨_, rfl, a, dx, _, rfl, h4.1, rF_no (by decide +kernel), ?_⟩
    refine take_use h4 ?_
    rw [takeE_yes hc (by decide +kernel)]
    intro H5 r5 k5
    refine every_use ?_
    rintro H6 _ s6 ⟨ar, rfl, har, hrg⟩
    intro x dxx hx hdx hne
    refine oi_use ⟨upd_same, fun H8 rg ra hb8 k8 => ⟨rfl, ?_⟩⟩
    have s8 := made_same hx hdx k8
    have s68 := Same.trans s6 s8
    exact hQ' H8 _ (.one [(0, 1114111)] false) (s68 _ _ r5) (k5.trans (Kept.of_same s68)) ⟨x, dxx, ar, rg, ra, rfl, none_kept k5 r5 (none_same s6 hx), none_kept k5 r5 har, hb8, hrg.same s8⟩ Ways.fits_any
  refine if_false_of (decide_eq_false c46) ?_
  have sp := sing_plain hc hc1 hc2 c91 c92 (fun x => x.elim c46 fun y => y.elim c94 c36)
  refine ⟨_, rfl, a, dx, _, rfl, h4.1, rF_no (by decide +kernel), ?_⟩
  refine plain_use h4 (by decide +kernel) ?_
  cases e : plainE zSigns g p with
  | error y =>
    rw [e] at sp
    dsimp only at sp
    rw [sp] at hQ
    exact hQ
  | ok y =>
    obtain ⟨l, q⟩ := y
    rw [e] at sp
    obtain ⟨x, e2, fx⟩ := sp
    rw [e2] at hQ
    have hQ' : ∀ H' v atm, RAt C H' a dx ag q an ab → Kept H4 H' a → AtmNew K cs H4 H' v atm → AtmFits atm x → Q v H' := hQ
    rintro H5 _ r5 k5 ⟨ar, rfl, har, hrg⟩
    intro x dxx hx hdx hne
    refine oi_use ⟨upd_same, fun H8 rg ra hb8 k8 => ⟨rfl, ?_⟩⟩
    have s8 := made_same hx hdx k8
    exact hQ' H8 _ (.one l false) (s8 _ _ r5) (k5.trans (Kept.of_same s8)) ⟨x, dxx, ar, rg, ra, rfl, none_kept k5 r5 hx, har, hb8, hrg.same s8⟩ fx
end
end Pat
end

section
namespace Pat
open PySem PySem.Spec PyProof.Rows L2
open PySem.FaultX (FaultTxt)
open PatUtf (Fault)
open PatWords (valueP oneP partsP atomP timesP repP)
abbrev zFig : Str := "0123456789"
theorem at_fig (c : UInt8) : (cds zFig).contains c.toNat = PatUtf.isDigit c :=
  beq_iff_eq.mp (u8_all (p := fun c => (cds zFig).contains c.toNat == PatUtf.isDigit c) (by decide +kernel) c)
theorem fig_int : ∀ n < 10, PySem.intText? (sg (48 + n)) = some (n : Int) := by decide +kernel
theorem fig_int' {c : UInt8} (h : PatUtf.isDigit c = true) : PySem.intText? (sg c.toNat) = some ((c.toNat - 48 : Nat) : Int) := by
  unfold PatUtf.isDigit at h
  simp only [Bool.and_eq_true, decide_eq_true_eq] at h
  have e : c.toNat = 48 + (c.toNat - 48) := by omega
  have := fig_int (c.toNat - 48) (by omega)
  rw [← e] at this
  exact this
/-- figures read on from a number -/
def dig (m : Nat) (x : UInt8) : Nat := 10 * m + (x.toNat - 48)
def numE (least : Nat) (g : List UInt8) (p : Nat) : Except Fault (V × Nat) := match timesP p (g.drop p) with
  | .error e => .error e
  | .ok (n, _, q) => if n < least then .error ⟨3, p⟩ else .ok (.int (n : Nat), q)
theorem dig_pos {m : Nat} (h : 0 < m) (x : UInt8) : 0 < dig m x := by
  unfold dig
  omega
/-- what is told of a number whose first figure is no nought, from any place within it on -/
theorem num_rest {least : Nat} {g : List UInt8} {p : Nat} {c : UInt8} (hc : g[p]? = some c) (hd : PatUtf.isDigit c = true) (h48 : c ≠ 48) {q n : Nat} (hq : p < q) (hql : q ≤ g.length)
    (hn : ((c :: g.drop (p + 1)).takeWhile PatUtf.isDigit).foldl dig 0 = ((g.drop q).takeWhile PatUtf.isDigit).foldl dig n) (hlen : ((c :: g.drop (p + 1)).takeWhile PatUtf.isDigit).length = q - p + ((g.drop q).takeWhile PatUtf.isDigit).length)
    (hend : ∀ x, g[q]? = some x → PatUtf.isDigit x = false) :
    numE least g p = if q = g.length then .error ⟨1, q⟩ else if n < least ∨ 20 < n then .error ⟨3, p⟩ else .ok (.int (n : Nat), q) := by
  have hlt := lt_of_some hc
  have et : (g.drop q).takeWhile PatUtf.isDigit = [] := by
    cases e : g[q]? with
    | none => rw [drop_none e]; rfl
    | some x => rw [drop_cons e, List.takeWhile_cons, hend x e]; rfl
  rw [et] at hn hlen
  rw [List.foldl_nil] at hn
  have hlen : ((c :: g.drop (p + 1)).takeWhile PatUtf.isDigit).length = q - p := by
    rw [hlen]
    rfl
  have hbl : (c :: g.drop (p + 1)).length = g.length - p := by rw [← drop_cons hc, List.length_drop]
  unfold numE timesP
  rw [drop_cons hc]
  dsimp only
  rw [if_neg (by rw [hd]; decide), if_neg h48]
  have hf : (fun (m : Nat) (x : UInt8) => 10 * m + (x.toNat - 48)) = dig := rfl
  rw [hf, hn, hlen, hbl]
  by_cases c1 : q = g.length
  · rw [if_pos c1, if_pos (by omega)]
    have : p + (g.length - p) = q := by omega
    rw [this]
  · rw [if_neg c1, if_neg (by omega)]
    unfold PatWords.TIMES
    by_cases c2 : 20 < n
    · rw [if_pos c2, if_pos (Or.inr c2)]
    · rw [if_neg c2]
      have : p + (q - p) = q := by omega
      dsimp only
      by_cases c3 : n < least
      · rw [if_pos c3, if_pos (Or.inl c3)]
      · rw [if_neg c3, if_neg (by omega), this]
section
variable {P : Program} {w : World} {K : PySem.W.Frag} {mg : Str → Option Value} {base : Heap} {C CF fI : Addr} {H H1 H2 : Hp} {a dx ag an ab : Addr} {p q : Nat} {g : List UInt8} {z : Str} {Q : VK} {E : XK}
/-! ### take_number -/
@[irreducible] def spNum (K : PySem.W.Frag) (C CF : Addr) : Sp := fun vs H Q E => ∃ (a dx ag : Addr) (p : Nat) (an ab : Addr) (g : List UInt8) (least : Nat), vs = [.ref a, .int least] ∧ At K C H a dx ag p an ab g ∧ Ret C CF a dx ag an ab H Q E (numE least g p)
theorem num_use {least : Nat} (h : At K C H a dx ag p an ab g) (r : Ret C CF a dx ag an ab H Q E (numE least g p)) : spNum K C CF [.ref a, .int (least : Nat)] H Q E := by
  unfold spNum
  exact ⟨a, dx, ag, p, an, ab, g, least, rfl, h, r⟩
theorem scNum : FnScope ["self", "least", "first_place", "number"] ["self", "least"] (defScope (sR 11)) := ⟨rfl, rfl, rfl, by decide +kernel, rfl, by decide +kernel, by decide +kernel⟩
theorem ok_num {f : Addr} {fd : FuncData} (F : Fun K "take_number" "Reader.take_number" (sR 11) f fd) (T : Txt K mg C CF fI) (hS1 : ∃ t, mg "FIGURES" = some (.str zFig t)) (k20 : ∃ t, mg "MOST_TIMES" = some (.int 20 t)) (k3 : ∃ t, mg "NUMBER_OUT_OF_RANGE" = some (.int 3 t)) (hint : mg "int" = none)
    (M1 : MOk P w K mg base CX0 C 2 "at" ["self", "signs"] (spAt K C)) (M2 : MOk P w K mg base (L2N.CX P w) C 3 "take" ["self", "signs"] (spTake K C CF))
    (M3 : MOk P w K mg base (L2N.CX P w) C 2 "need_byte" ["self"] (spNeed K C CF)) : FnOk P w K mg base (L2N.CX P w) 4 f fd ["self", "least"] (spNum K C CF) := by
  obtain ⟨f1, fd1, m1, b1, G1⟩ := M1
  obtain ⟨f2, fd2, m2, b2, G2⟩ := M2
  obtain ⟨f3, fd3, m3, b3, G3⟩ := M3
  refine F.okN scNum (fun vs H Q E h => ?_) (fun cdv A outer s H vs Q E hr h => ⟨_, pss_cons (ps_set (i := 2) scNum.nd rfl (Or.inl rfl) (pe_fld (pv 0) rfl))
      (pss_cons (ps_set (i := 3) scNum.nd rfl (Or.inl rfl) (pe_callTy call_int_str (by rfl) hint (by decide +kernel) (by exact (pa_cons (pe_meth (pv 0) T.cl m2 G2 hr b2 .nil (L2N.passes_call (L2N.takes_of rfl rfl rfl rfl) (fun _ _ _ _ h => h)) (by exact (pa_cons (pe_gs hS1) pa_nil))) pa_nil))))
      (pss_cons (ps_while (passes_of rfl) (PW.pt (pw_and (pt_cmpR op_gt (pv 3) pe_int (nomark _)) (pw_and1 (pt_val (pe_meth (pv 0) T.cl m1 G1 (hr.mono (by decide)) b1 .nil pass0 (pa_cons (pe_gs hS1) pa_nil))))))
        (pss_one (ps_set (i := 3) scNum.nd rfl (Or.inl rfl) (pe_op op_add (pe_op op_mul (pv 3) pe_int) (pe_callTy call_int_str (by rfl) hint (by decide +kernel) (by exact (pa_cons (pe_meth (pv 0) T.cl m2 G2 hr b2 .nil (L2N.passes_call (L2N.takes_of rfl rfl rfl rfl) (fun _ _ _ _ h => h)) (by exact (pa_cons (pe_gs hS1) pa_nil))) pa_nil)))))))
      (pss_cons (ps_expr (pe_meth0 (pv 0) T.cl m3 G3 (hr.mono (by decide)) b3 .nil (L2N.passes_call (L2N.takes_of rfl rfl rfl rfl) (fun _ _ _ _ h => h))))
      (pss_cons (ps_if (PW.pt (pw_or (pt_cmpR op_lt (pv 3) (pv 1) (nomark _)) (pw_or1 (pt_cmpR op_gt (pv 3) (pe_gi k20) (nomark _)))))
        (pss_one (ps_raiseFault rfl T.ft hr (L2N.takes_of rfl rfl rfl rfl) (by exact (pa_cons (pe_gi k3) (pa_cons (pv 2) pa_nil))))) pss_nil)
      (pss_one (ps_ret (pv 3))))))), ?_⟩)
  · unfold spNum at h
    obtain ⟨_, _, _, _, _, _, _, _, rfl, _⟩ := h
    rfl
  unfold spNum at h
  obtain ⟨a, dx, ag, p, an, ab, g, least, rfl, h, hQ⟩ := h
  refine ⟨_, rfl, a, C, dx, _, _, rfl, h.1, T.cl, T.nP, rF_place, ?_⟩
  refine ⟨_, rfl, a, dx, _, rfl, h.1, rF_no (by decide +kernel), ?_⟩
  refine take_use h ?_
  cases hc : g[p]? with
  | none =>
    rw [takeE_end hc]
    have e : numE least g p = .error ⟨1, p⟩ := by unfold numE; rw [drop_none hc]; rfl
    rw [e] at hQ
    exact hQ
  | some c =>
    have hlt := lt_of_some hc
    cases hd : PatUtf.isDigit c with
    | false =>
      rw [takeE_no hc (by rw [at_fig]; exact hd)]
      have e : numE least g p = .error ⟨2, p⟩ := by
        unfold numE timesP
        rw [drop_cons hc]
        dsimp only
        rw [if_pos hd]
      rw [e] at hQ
      exact hQ
    | true =>
      rw [takeE_yes hc (by rw [at_fig]; exact hd)]
      intro H1 r1 k1
      have h1 := h.next r1 k1 (by omega)
      refine ⟨_, _, rfl, fig_int' hd, (by show 1 ≤ 640; decide), ?_⟩
      -- behind the loop
      have tail : ∀ (q n : Nat) (H5 : Hp), p < q → At K C H5 a dx ag q an ab g → Kept H H5 a → (numE least g p = if q = g.length then .error ⟨1, q⟩ else if n < least ∨ 20 < n then .error ⟨3, p⟩ else .ok (.int (n : Nat), q)) →
          (tSeq (tDrop (tMeth C "need_byte" (spNeed K C CF) [] E (tVar 0) tNil)) (tSeq (tIfS (tOr (tTest (tOp rLt (tVar 3) (tVar 1))) (tTest (tOp (rI0 fun i j => .bl (decide (j < i))) (tVar 3) (tC (.int 20)))))
            (tRaiseFault CF (fun cls d _ H => E cls d H) (tCons (tC (.int 3)) (tCons (tVar 2) tNil))) tNext) (tRet (tVar 3)))) { nx := fun _ H' => Q .non H', rt := Q } [some (.ref a), some (.int (least : Nat)), some (.int (p : Nat)), some (.int (n : Nat))] H5 := by
        intro q n H5 hpq h5 k5 e
        rw [e] at hQ
        refine ⟨_, rfl, a, dx, _, rfl, h5.1, rF_no (by decide +kernel), ?_⟩
        refine need_use h5 (fun c1 => ?_) (fun c1 => ?_)
        · rw [if_pos c1] at hQ
          exact hQ
        · rw [if_neg (by omega)] at hQ
          refine ⟨_, rfl, _, rfl, _, _, rfl, rfl, _, rfl, ?_⟩
          by_cases c2 : n < least
          · rw [if_pos (.inl c2)] at hQ
            have hQ' : Out CF ⟨3, p⟩ E := hQ
            exact if_true_of (decide_eq_true (by omega)) (if_true_of rfl ⟨_, rfl, _, _, rfl, fun d hd => hQ' d _ upd_same⟩)
          · refine if_false_of (decide_eq_false (by omega)) ⟨_, rfl, _, _, rfl, rfl, _, rfl, ?_⟩
            by_cases c3 : 20 < n
            · rw [if_pos (.inr c3)] at hQ
              have hQ' : Out CF ⟨3, p⟩ E := hQ
              exact if_true_of (decide_eq_true (by omega)) ⟨_, rfl, _, _, rfl, fun d hd => hQ' d _ upd_same⟩
            · rw [if_neg (by omega)] at hQ
              have hQ' : ∀ H', RAt C H' a dx ag q an ab → Kept H H' a → Q (.int (n : Nat)) H' := hQ
              exact if_false_of (decide_eq_false (by omega)) ⟨_, rfl, hQ' H5 h5.1 k5⟩
      have hpos48 : c ≠ 48 → 0 < c.toNat - 48 := fun h => by
        unfold PatUtf.isDigit at hd
        simp only [Bool.and_eq_true, decide_eq_true_eq] at hd
        have : c.toNat ≠ 48 := fun e => h ((u8_eq (by decide)).mp e)
        omega
      by_cases h48 : c = 48
      · -- a nought is the whole number
        subst h48
        have e : numE least g p = if p + 1 = g.length then .error ⟨1, p + 1⟩ else if 0 < least ∨ 20 < 0 then .error ⟨3, p⟩ else .ok (.int (0 : Nat), p + 1) := by
          unfold numE timesP
          rw [drop_cons hc]
          dsimp only
          rw [if_neg (by decide), if_pos rfl]
          cases e2 : g[p + 1]? with
          | none =>
            have : p + 1 = g.length := by have := List.getElem?_eq_none_iff.mp e2; omega
            rw [drop_none e2, if_pos this]
          | some x =>
            have := lt_of_some e2
            rw [drop_cons e2, if_neg (by omega)]
            dsimp only
            by_cases c3 : 0 < least
            · rw [if_pos c3, if_pos (.inl c3)]
            · rw [if_neg c3, if_neg (by omega)]
        refine ⟨fun m σ H' => σ = [some (.ref a), some (.int (least : Nat)), some (.int (p : Nat)), some (.int ((0 : Nat) : Int))] ∧ At K C H' a dx ag (p + 1) an ab g ∧ Kept H H' a, ⟨0, rfl, h1, k1⟩, ?_⟩
        rintro m σ H5 ⟨rfl, h5, k5⟩
        refine ⟨_, rfl, _, _, rfl, rfl, _, rfl, if_false_of rfl (if_false_of rfl ?_)⟩
        exact tail (p + 1) 0 H5 (by omega) h5 k5 e
      · refine ⟨fun m σ H' => ∃ (q n : Nat) (i : Int), m = g.length - q ∧ σ = [some (.ref a), some (.int (least : Nat)), some (.int (p : Nat)), some (.int i)] ∧ i = n ∧ At K C H' a dx ag q an ab g ∧ Kept H H' a ∧ p < q ∧ 0 < n ∧
          ((c :: g.drop (p + 1)).takeWhile PatUtf.isDigit).foldl dig 0 = ((g.drop q).takeWhile PatUtf.isDigit).foldl dig n ∧ ((c :: g.drop (p + 1)).takeWhile PatUtf.isDigit).length = q - p + ((g.drop q).takeWhile PatUtf.isDigit).length,
          ⟨_, p + 1, c.toNat - 48, _, rfl, rfl, rfl, h1, k1, by omega, hpos48 h48, ?_, ?_⟩, ?_⟩
        · rw [List.takeWhile_cons, if_pos hd, List.foldl_cons]
          have : dig 0 c = c.toNat - 48 := by unfold dig; omega
          rw [this]
        · rw [List.takeWhile_cons, if_pos hd, List.length_cons]
          omega
        rintro m σ H5 ⟨q, n, i, rfl, rfl, rfl, h5, k5, hpq, hn0, hn, hl⟩
        refine ⟨_, rfl, _, _, rfl, rfl, _, rfl, if_true_of (decide_eq_true (by omega)) ?_⟩
        refine ⟨_, rfl, a, dx, _, rfl, h5.1, rF_no (by decide +kernel), ?_⟩
        refine at_use h5 (by decide +kernel) fun H6 s6 => ?_
        have h6 := h5.same s6
        have k6 := k5.trans (Kept.of_same s6)
        refine ⟨_, rfl, ?_⟩
        cases ea : isAt g q zFig with
        | false =>
          refine if_false_of rfl (tail q n H6 hpq h6 k6 (num_rest hc hd h48 hpq h6.2.2.1 hn hl fun x hx => ?_))
          rw [isAt_some hx, at_fig] at ea
          exact ea
        | true =>
          obtain ⟨x, hx, hxd⟩ : ∃ x, g[q]? = some x ∧ PatUtf.isDigit x = true := by
            cases e : g[q]? with
            | none => rw [isAt_none e] at ea; cases ea
            | some x => rw [isAt_some e, at_fig] at ea; exact ⟨x, rfl, ea⟩
          have hlq := lt_of_some hx
          refine if_true_of rfl ⟨fun σ' H' => ∃ (n' : Nat) (i' : Int), σ' = [some (.ref a), some (.int (least : Nat)), some (.int (p : Nat)), some (.int i')] ∧ i' = n' ∧ At K C H' a dx ag (q + 1) an ab g ∧ Kept H H' a ∧ 0 < n' ∧
            ((c :: g.drop (p + 1)).takeWhile PatUtf.isDigit).foldl dig 0 = ((g.drop (q + 1)).takeWhile PatUtf.isDigit).foldl dig n' ∧ ((c :: g.drop (p + 1)).takeWhile PatUtf.isDigit).length = q + 1 - p + ((g.drop (q + 1)).takeWhile PatUtf.isDigit).length, ?_, ?_⟩
          · rintro σ' H' ⟨n', i', rfl, rfl, h7, k7, hn7, e1, e2⟩
            exact ⟨g.length - (q + 1), by omega, q + 1, n', _, rfl, rfl, rfl, h7, k7, by omega, hn7, e1, e2⟩
          · refine ⟨_, rfl, _, _, rfl, rfl, .inr ⟨by decide, by decide⟩, _, rfl, a, dx, _, rfl, h6.1, rF_no (by decide +kernel), ?_⟩
            refine take_use h6 ?_
            rw [takeE_yes hx (by rw [at_fig]; exact hxd)]
            intro H7 r7 k7
            refine ⟨_, _, rfl, fig_int' hxd, (by show 1 ≤ 640; decide), _, _, rfl, rfl, ?_⟩
            refine ⟨dig n x, _, rfl, ?_, h6.next r7 k7 (by omega), k6.trans k7, dig_pos hn0 x, ?_, ?_⟩
            · unfold dig
              omega
            · rw [hn, drop_cons hx, List.takeWhile_cons, if_pos hxd, List.foldl_cons]
            · rw [hl, drop_cons hx, List.takeWhile_cons, if_pos hxd, List.length_cons]
              omega
end
end Pat
end

section
namespace Pat
open PySem PySem.Spec PyProof.Rows L2
open PySem.FaultX (FaultTxt)
open PatUtf (Fault)
open PatWords (valueP oneP partsP atomP timesP repP Pat)
/-- how often what is repeated stands there, written out -/
def timesOf : Pat → Nat
  | .rep _ m n => match n with
    | some k => k
    | none => max m 1
  | _ => 1
/-- the least and the most of a repetition -/
def repE (g : List UInt8) (p : Nat) : Except Fault (Nat × Option Nat × Nat) := match repP .nothing p (g.drop p) with
  | .error e => .error e
  | .ok (.rep _ m n, _, q) => .ok (m, n, q)
  | .ok (_, _, q) => .ok (0, none, q)
theorem timesP_drop {g : List UInt8} {p n q : Nat} {r : List UInt8} (h : timesP p (g.drop p) = .ok (n, r, q)) : r = g.drop q ∧ p < q ∧ q < g.length := by
  unfold timesP at h
  cases hc : g[p]? with
  | none => rw [drop_none hc] at h; cases h
  | some c =>
    have hlt := lt_of_some hc
    rw [drop_cons hc] at h
    dsimp only at h
    split at h
    · cases h
    rename_i hd
    split at h
    · cases hx : g[p + 1]? with
      | none => rw [drop_none hx] at h; cases h
      | some x =>
        have := lt_of_some hx
        rw [drop_cons hx] at h
        cases h
        exact ⟨(drop_cons hx).symm, by omega, this⟩
    · split at h
      · cases h
      rename_i hl
      split at h
      · cases h
      · have hbl : (c :: g.drop (p + 1)).length = g.length - p := by rw [← drop_cons hc, List.length_drop]
        have hle : ((c :: g.drop (p + 1)).takeWhile PatUtf.isDigit).length ≤ (c :: g.drop (p + 1)).length := (List.takeWhile_prefix _).length_le
        have hpos : 0 < ((c :: g.drop (p + 1)).takeWhile PatUtf.isDigit).length := by
          rw [List.takeWhile_cons, if_pos (by simpa using hd)]
          exact Nat.succ_pos _
        cases h
        refine ⟨?_, by omega, by omega⟩
        rw [← drop_cons hc, List.drop_drop, drop_cons hc]
section
variable {P : Program} {w : World} {K : PySem.W.Frag} {mg : Str → Option Value} {base : Heap} {C CF fI : Addr} {H H1 H2 : Hp} {a dx ag an ab : Addr} {p q : Nat} {g : List UInt8} {z : Str} {Q : VK} {E : XK}
/-- a way out with a tuple of the least and the most -/
def RetM (K : PySem.W.Frag) (C CF : Addr) (a dx ag an ab : Addr) (H : Hp) (Q : VK) (E : XK) (res : Except Fault (Nat × Option Nat × Nat)) : Prop := match res with
  | .error e => Out CF e E
  | .ok (m, n, q) => ∀ H' t, RAt C H' a dx ag q an ab → Kept H H' a → SqT K H' t [.int (m : Nat), optN n] → Q (.ref t) H'
theorem RetM.mono {res : Except Fault (Nat × Option Nat × Nat)} {H0 : Hp} (r : RetM K C CF a dx ag an ab H0 Q E res) (k : Kept H0 H a) : RetM K C CF a dx ag an ab H Q E res := by
  unfold RetM at r ⊢
  cases res with
  | error e => exact r
  | ok y => exact fun H' t r' k' h => r H' t r' (k.trans k') h
/-! ### take_braces -/
@[irreducible] def spBraces (K : PySem.W.Frag) (C CF : Addr) : Sp := fun vs H Q E => ∃ (a dx ag : Addr) (p : Nat) (an ab : Addr) (g : List UInt8), vs = [.ref a] ∧ At K C H a dx ag p an ab g ∧ g[p]? = some 123 ∧ RetM K C CF a dx ag an ab H Q E (repE g p)
theorem braces_use (h : At K C H a dx ag p an ab g) (hc : g[p]? = some 123) (r : RetM K C CF a dx ag an ab H Q E (repE g p)) : spBraces K C CF [.ref a] H Q E := by
  unfold spBraces
  exact ⟨a, dx, ag, p, an, ab, g, rfl, h, hc, r⟩
theorem scBraces : FnScope ["self", "least", "most"] ["self"] (defScope (sR 12)) := ⟨rfl, rfl, rfl, by decide +kernel, rfl, by decide +kernel, by decide +kernel⟩
theorem at_comma (c : UInt8) : (cds ",}").contains c.toNat = (decide (c = 44) || decide (c = 125)) :=
  beq_iff_eq.mp (u8_all (p := fun c => (cds ",}").contains c.toNat == (decide (c = 44) || decide (c = 125))) (by decide +kernel) c)
theorem rep_braces {g : List UInt8} {p : Nat} (h : g[p]? = some 123) : repP .nothing p (g.drop p) = (do
      let (m, s, q) ← timesP (p + 1) (g.drop (p + 1))
      (match s with
        | [] => .error ⟨1, q⟩
        | d :: u => if d = 125 then .ok (.rep .nothing m (some m), u, q + 1) else if d ≠ 44 then .error ⟨2, q⟩ else match u with
          | [] => .error ⟨1, q + 1⟩
          | e :: v => if e = 125 then .ok (.rep .nothing m none, v, q + 2) else do
            let (n, x, k) ← timesP (q + 1) u
            if n < m then .error ⟨3, q + 1⟩ else match x with
              | [] => .error ⟨1, k⟩
              | y :: z => if y = 125 then .ok (.rep .nothing m (some n), z, k + 1) else .error ⟨2, k⟩)) := by
  rw [drop_cons h]
  rfl
theorem ok_braces {f : Addr} {fd : FuncData} (F : Fun K "take_braces" "Reader.take_braces" (sR 12) f fd) (T : Txt K mg C CF fI) 
    (M1 : MOk P w K mg base CX0 C 2 "at" ["self", "signs"] (spAt K C)) (M2 : MOk P w K mg base (L2N.CX P w) C 3 "take" ["self", "signs"] (spTake K C CF))
    (M3 : MOk P w K mg base (L2N.CX P w) C 4 "take_number" ["self", "least"] (spNum K C CF)) : FnOk P w K mg base (L2N.CX P w) 5 f fd ["self"] (spBraces K C CF) := by
  obtain ⟨f1, fd1, m1, b1, G1⟩ := M1
  obtain ⟨f2, fd2, m2, b2, G2⟩ := M2
  obtain ⟨f3, fd3, m3, b3, G3⟩ := M3
  refine F.okN scBraces (fun vs H Q E h => ?_) (fun cdv A outer s H vs Q E hr h => ⟨_, pss_cons (ps_expr (pe_meth (pv 0) T.cl m2 G2 (hr.mono (by decide)) b2 .nil (L2N.passes_call (L2N.takes_of rfl rfl rfl rfl) (fun _ _ _ _ h => h)) (by exact (pa_cons pe_str pa_nil))))
      (pss_cons (ps_set (i := 1) scBraces.nd rfl (Or.inl rfl) (pe_meth (pv 0) T.cl m3 G3 hr b3 .nil (L2N.passes_call (L2N.takes_of rfl rfl rfl rfl) (fun _ _ _ _ h => h)) (by exact (pa_cons pe_int pa_nil))))
      (pss_cons (ps_if (pt_cmpR op_eq (pe_meth (pv 0) T.cl m2 G2 (hr.mono (by decide)) b2 .nil (L2N.passes_call (L2N.takes_of rfl rfl rfl rfl) (fun _ _ _ _ h => h)) (by exact (pa_cons pe_str pa_nil))) pe_str (nomark _)) (pss_one (ps_ret (pe_tup (pa_cons (pv 1) (pa_cons (pv 1) pa_nil))))) pss_nil)
      (pss_cons (ps_if (pt_val (pe_meth (pv 0) T.cl m1 G1 (hr.mono (by decide)) b1 .nil pass0 (pa_cons pe_str pa_nil)))
        (pss_cons (ps_expr (pe_meth (pv 0) T.cl m2 G2 (hr.mono (by decide)) b2 .nil (L2N.passes_call (L2N.takes_of rfl rfl rfl rfl) (fun _ _ _ _ h => h)) (by exact (pa_cons pe_str pa_nil))))
          (pss_one (ps_ret (pe_tup (pa_cons (pv 1) (pa_cons pe_non pa_nil)))))) pss_nil)
      (pss_cons (ps_set (i := 2) scBraces.nd rfl (Or.inl rfl) (pe_meth (pv 0) T.cl m3 G3 hr b3 .nil (L2N.passes_call (L2N.takes_of rfl rfl rfl rfl) (fun _ _ _ _ h => h)) (by exact (pa_cons (pv 1) pa_nil))))
      (pss_cons (ps_expr (pe_meth (pv 0) T.cl m2 G2 (hr.mono (by decide)) b2 .nil (L2N.passes_call (L2N.takes_of rfl rfl rfl rfl) (fun _ _ _ _ h => h)) (by exact (pa_cons pe_str pa_nil))))
      (pss_one (ps_ret (pe_tup (pa_cons (pv 1) (pa_cons (pv 2) pa_nil)))))))))), ?_⟩)
  · unfold spBraces at h
    obtain ⟨_, _, _, _, _, _, _, rfl, _⟩ := h
    rfl
  unfold spBraces at h
  obtain ⟨a, dx, ag, p, an, ab, g, rfl, h, h123, hQ⟩ := h
  have hlt := lt_of_some h123
  unfold repE at hQ
  rw [rep_braces h123] at hQ
  refine ⟨_, rfl, a, dx, _, rfl, h.1, rF_no (by decide +kernel), ?_⟩
  refine take_use h ?_
  rw [takeE_yes h123 (by decide +kernel)]
  intro H1 r1 k1
  have h1 := h.next r1 k1 (by omega)
  refine ⟨_, rfl, a, dx, _, rfl, h1.1, rF_no (by decide +kernel), ?_⟩
  refine num_use (least := 0) h1 ?_
  unfold numE
  cases e1 : timesP (p + 1) (g.drop (p + 1)) with
  | error e => rw [e1] at hQ; exact hQ
  | ok y =>
    obtain ⟨m, s, q⟩ := y
    obtain ⟨hs, hpq, hql⟩ := timesP_drop e1
    subst hs
    rw [e1] at hQ
    dsimp only
    rw [if_neg (by omega)]
    intro H2 r2 k2
    have h2 := h1.next r2 k2 (by omega)
    have k12 := k1.trans k2
    refine ⟨_, rfl, a, dx, _, rfl, h2.1, rF_no (by decide +kernel), ?_⟩
    refine take_use h2 ?_
    have hd : g[q]? = some g[q] := List.getElem?_eq_getElem hql
    simp only [bind, Except.bind] at hQ
    rw [drop_cons hd] at hQ
    dsimp only at hQ
    by_cases c125 : g[q] = 125
    · rw [if_pos c125] at hQ
      rw [takeE_yes hd (by rw [at_comma, c125]; rfl), c125]
      intro H3 r3 k3
      have hQ' : ∀ H' t, RAt C H' a dx ag (q + 1) an ab → Kept H H' a → SqT K H' t [.int (m : Nat), optN (some m)] → Q (.ref t) H' := hQ
      refine ⟨rfl, _, rfl, if_true_of (by decide +kernel) ⟨_, rfl, _, rfl, by show 2 ≤ sizeLine; decide, fun t ht => ?_⟩⟩
      exact hQ' _ t (Same.upd ht _ _ r3) ((k12.trans k3).trans (Kept.of_same (Same.upd ht))) (SqT.of upd_same)
    · rw [if_neg c125] at hQ
      by_cases c44 : g[q] = 44
      · rw [if_neg (fun x => x c44)] at hQ
        rw [takeE_yes hd (by rw [at_comma, c44]; rfl), c44]
        intro H3 r3 k3
        have h3 := h2.next r3 k3 (by omega)
        have k13 := k12.trans k3
        refine ⟨rfl, _, rfl, if_false_of (by decide +kernel) ?_⟩
        refine ⟨_, rfl, a, dx, _, rfl, h3.1, rF_no (by decide +kernel), ?_⟩
        refine at_use h3 (by decide +kernel) fun H4 s4 => ?_
        have h4 := h3.same s4
        have k14 := k13.trans (Kept.of_same s4)
        refine ⟨_, rfl, ?_⟩
        cases he : g[q + 1]? with
        | none =>
          rw [drop_none he] at hQ
          rw [isAt_none he]
          refine if_false_of rfl ?_
          refine ⟨_, rfl, a, dx, _, rfl, h4.1, rF_no (by decide +kernel), _, rfl, ?_⟩
          refine num_use h4 ?_
          unfold numE
          rw [drop_none he]
          exact hQ
        | some e =>
          have hle := lt_of_some he
          rw [drop_cons he] at hQ
          dsimp only at hQ
          rw [isAt_some he, at_sign (n := 125) (by decide +kernel)]
          by_cases e125 : e = 125
          · rw [if_pos e125] at hQ
            subst e125
            refine if_true_of rfl ?_
            refine ⟨_, rfl, a, dx, _, rfl, h4.1, rF_no (by decide +kernel), ?_⟩
            refine take_use h4 ?_
            rw [takeE_yes he (by decide +kernel)]
            intro H5 r5 k5
            have hQ' : ∀ H' t, RAt C H' a dx ag (q + 2) an ab → Kept H H' a → SqT K H' t [.int (m : Nat), optN none] → Q (.ref t) H' := hQ
            refine ⟨_, rfl, by show 2 ≤ sizeLine; decide, fun t ht => ?_⟩
            exact hQ' _ t (Same.upd ht _ _ r5) ((k14.trans k5).trans (Kept.of_same (Same.upd ht))) (SqT.of upd_same)
          · rw [if_neg e125, ← drop_cons he] at hQ
            refine if_false_of (decide_eq_false e125) ?_
            refine ⟨_, rfl, a, dx, _, rfl, h4.1, rF_no (by decide +kernel), _, rfl, ?_⟩
            refine num_use h4 ?_
            unfold numE
            cases e2 : timesP (q + 1) (g.drop (q + 1)) with
            | error x => rw [e2] at hQ; exact hQ
            | ok y2 =>
              obtain ⟨n, x, k⟩ := y2
              obtain ⟨hx, hqk, hkl⟩ := timesP_drop e2
              subst hx
              rw [e2] at hQ
              dsimp only at hQ ⊢
              by_cases cnm : n < m
              · rw [if_pos cnm] at hQ ⊢
                exact hQ
              · rw [if_neg cnm] at hQ ⊢
                intro H5 r5 k5
                have h5 := h4.next r5 k5 (by omega)
                have k15 := k14.trans k5
                refine ⟨_, rfl, a, dx, _, rfl, h5.1, rF_no (by decide +kernel), ?_⟩
                refine take_use h5 ?_
                have hy : g[k]? = some g[k] := List.getElem?_eq_getElem hkl
                rw [drop_cons hy] at hQ
                dsimp only at hQ
                by_cases y125 : g[k] = 125
                · rw [if_pos y125] at hQ
                  rw [takeE_yes hy (by rw [y125]; decide +kernel)]
                  intro H6 r6 k6
                  have hQ' : ∀ H' t, RAt C H' a dx ag (k + 1) an ab → Kept H H' a → SqT K H' t [.int (m : Nat), optN (some n)] → Q (.ref t) H' := hQ
                  refine ⟨_, rfl, _, rfl, by show 2 ≤ sizeLine; decide, fun t ht => ?_⟩
                  exact hQ' _ t (Same.upd ht _ _ r6) ((k15.trans k6).trans (Kept.of_same (Same.upd ht))) (SqT.of upd_same)
                · rw [if_neg y125] at hQ
                  rw [takeE_no hy (by rw [at_sign (n := 125) (by decide +kernel)]; exact decide_eq_false y125)]
                  exact hQ
      · rw [if_pos c44] at hQ
        rw [takeE_no hd (by rw [at_comma]; simp [c44, c125])]
        exact hQ
/-! ### take_times -/
/-- the three signs of repetition in the text that the top has written -/
structure TxR (w : World) (K : PySem.W.Frag) (mg : Str → Option Value) (d t1 t2 t3 : Addr) : Prop where
  at_ : mg "REPETITIONS" = some (.ref d)
  e1 : KDct K w d (sg 42) (V.ref t1)
  e2 : KDct K w d (sg 43) (V.ref t2)
  e3 : KDct K w d (sg 63) (V.ref t3)
  r1 : ∀ H, SqT K H t1 [.int (0 : Nat), optN none]
  r2 : ∀ H, SqT K H t2 [.int (1 : Nat), optN none]
  r3 : ∀ H, SqT K H t3 [.int (0 : Nat), optN (some 1)]
@[irreducible] def spTimes (K : PySem.W.Frag) (C CF : Addr) : Sp := fun vs H Q E => ∃ (a dx ag : Addr) (p : Nat) (an ab : Addr) (g : List UInt8) (c : UInt8), vs = [.ref a] ∧ At K C H a dx ag p an ab g ∧ g[p]? = some c ∧ Mach.isRep c = true ∧ RetM K C CF a dx ag an ab H Q E (repE g p)
theorem times_use {c : UInt8} (h : At K C H a dx ag p an ab g) (hc : g[p]? = some c) (hr : Mach.isRep c = true) (r : RetM K C CF a dx ag an ab H Q E (repE g p)) : spTimes K C CF [.ref a] H Q E := by
  unfold spTimes
  exact ⟨a, dx, ag, p, an, ab, g, c, rfl, h, hc, hr, r⟩
theorem scTimes : FnScope ["self"] ["self"] (defScope (sR 13)) := ⟨rfl, rfl, rfl, by decide +kernel, rfl, by decide +kernel, by decide +kernel⟩
theorem ok_times {f : Addr} {fd : FuncData} (F : Fun K "take_times" "Reader.take_times" (sR 13) f fd) (T : Txt K mg C CF fI) {d t1 t2 t3 : Addr} (TR : TxR w K mg d t1 t2 t3)
    (M1 : MOk P w K mg base CX0 C 2 "at" ["self", "signs"] (spAt K C)) (M2 : MOk P w K mg base (L2N.CX P w) C 5 "take_braces" ["self"] (spBraces K C CF))
    (M3 : MOk P w K mg base (L2N.CX P w) C 3 "take" ["self", "signs"] (spTake K C CF)) : FnOk P w K mg base (L2N.CX P w) 6 f fd ["self"] (spTimes K C CF) := by
  obtain ⟨f1, fd1, m1, b1, G1⟩ := M1
  obtain ⟨f2, fd2, m2, b2, G2⟩ := M2
  obtain ⟨f3, fd3, m3, b3, G3⟩ := M3
  refine F.okN scTimes (fun vs H Q E h => ?_) (fun cdv A outer s H vs Q E hr h => ⟨_, pss_cons (ps_if (pt_val (pe_meth (pv 0) T.cl m1 G1 (hr.mono (by decide)) b1 .nil pass0 (pa_cons pe_str pa_nil)))
        (pss_one (ps_ret (pe_meth0 (pv 0) T.cl m2 G2 hr b2 .nil (L2N.passes_call (L2N.takes_of rfl rfl rfl rfl) (fun _ _ _ _ h => h))))) pss_nil)
      (pss_one (ps_ret (pe_ix ix_kdict (pe_glob (v := .ref d) rfl TR.at_ rfl) (pe_meth (pv 0) T.cl m3 G3 (hr.mono (by decide)) b3 .nil (L2N.passes_call (L2N.takes_of rfl rfl rfl rfl) (fun _ _ _ _ h => h)) (by exact (pa_cons pe_str pa_nil))) (fun _ _ => rfl)))), ?_⟩)
  · unfold spTimes at h
    obtain ⟨_, _, _, _, _, _, _, _, rfl, _⟩ := h
    rfl
  unfold spTimes at h
  obtain ⟨a, dx, ag, p, an, ab, g, c, rfl, h, hc, hrep, hQ⟩ := h
  have hlt := lt_of_some hc
  refine ⟨_, rfl, a, dx, _, rfl, h.1, rF_no (by decide +kernel), ?_⟩
  refine at_use h (by decide +kernel) fun H1 s1 => ?_
  have h1 := h.same s1
  have hQ := RetM.mono hQ (Kept.of_same s1)
  refine ⟨_, rfl, ?_⟩
  rw [isAt_some hc, at_sign (n := 123) (by decide +kernel)]
  by_cases c123 : c = 123
  · subst c123
    refine if_true_of rfl ?_
    refine ⟨_, rfl, a, dx, _, rfl, h1.1, rF_no (by decide +kernel), ?_⟩
    exact braces_use h1 hc hQ
  refine if_false_of (decide_eq_false c123) ?_
  refine ⟨_, rfl, a, dx, _, rfl, h1.1, rF_no (by decide +kernel), ?_⟩
  refine take_use h1 ?_
  have h3c : c = 42 ∨ c = 43 ∨ c = 63 := by
    simp only [Mach.isRep, Bool.or_eq_true, beq_iff_eq] at hrep
    rcases hrep with ((h | h) | h) | h
    · exact .inl h
    · exact .inr (.inl h)
    · exact .inr (.inr h)
    · exact absurd h c123
  rw [takeE_yes hc (by rcases h3c with h | h | h <;> subst h <;> decide +kernel)]
  intro H3 r3 k3
  rcases h3c with hh | hh | hh
  · subst hh
    have e : repE g p = .ok (0, none, p + 1) := by unfold repE; rw [drop_cons hc]; rfl
    rw [e] at hQ
    exact ⟨d, _, _, rfl, rfl, TR.e1, hQ H3 t1 r3 k3 (TR.r1 _)⟩
  · subst hh
    have e : repE g p = .ok (1, none, p + 1) := by unfold repE; rw [drop_cons hc]; rfl
    rw [e] at hQ
    exact ⟨d, _, _, rfl, rfl, TR.e2, hQ H3 t2 r3 k3 (TR.r2 _)⟩
  · subst hh
    have e : repE g p = .ok (0, some 1, p + 1) := by unfold repE; rw [drop_cons hc]; rfl
    rw [e] at hQ
    exact ⟨d, _, _, rfl, rfl, TR.e3, hQ H3 t3 r3 k3 (TR.r3 _)⟩
end
end Pat
end

section
namespace Pat
open PySem PySem.Spec PyProof.Rows L2
open PySem.FaultX (FaultTxt)
open PatUtf (Fault)
/-! ### an open bracket -/
def optI : Option Int → V
  | none => .non
  | some i => .int i
def bF (z : Str) (num : V) (ar : Addr) (n : Int) (l : Option Int) : List (Str × V) := [("closing", .str z), ("number", num), ("rows", .ref ar), ("atoms", .int n), ("last_atoms", optI l)]
section
variable {z : Str} {num : V} {ar : Addr} {n m : Int} {l k : Option Int}
theorem bF_closing : (bF z num ar n l).lookup ("closing" : Str) = some (.str z) := lk_here
theorem bF_number : (bF z num ar n l).lookup ("number" : Str) = some num := (lk_past (by decide +kernel)).trans lk_here
theorem bF_rows : (bF z num ar n l).lookup ("rows" : Str) = some (.ref ar) := (lk_past (by decide +kernel)).trans ((lk_past (by decide +kernel)).trans lk_here)
theorem bF_atoms : (bF z num ar n l).lookup ("atoms" : Str) = some (.int n) := (lk_past (by decide +kernel)).trans ((lk_past (by decide +kernel)).trans ((lk_past (by decide +kernel)).trans lk_here))
theorem bF_last : (bF z num ar n l).lookup ("last_atoms" : Str) = some (optI l) := (lk_past (by decide +kernel)).trans ((lk_past (by decide +kernel)).trans ((lk_past (by decide +kernel)).trans ((lk_past (by decide +kernel)).trans lk_here)))
theorem bF_no {f : Str} (h : (f == ("closing" : Str)) = false ∧ (f == ("number" : Str)) = false ∧ (f == ("rows" : Str)) = false ∧ (f == ("atoms" : Str)) = false ∧ (f == ("last_atoms" : Str)) = false) : (bF z num ar n l).lookup f = none :=
  (lk_past h.1).trans ((lk_past h.2.1).trans ((lk_past h.2.2.1).trans ((lk_past h.2.2.2.1).trans ((lk_past h.2.2.2.2).trans rfl))))
theorem bF_putA : putF "atoms" (.int m) (bF z num ar n l) = bF z num ar m l :=
  (put_past (by decide +kernel)).trans (congrArg _ ((put_past (by decide +kernel)).trans (congrArg _ ((put_past (by decide +kernel)).trans (congrArg _ put_here)))))
theorem bF_putL : putF "last_atoms" (optI k) (bF z num ar n l) = bF z num ar n k :=
  (put_past (by decide +kernel)).trans (congrArg _ ((put_past (by decide +kernel)).trans (congrArg _ ((put_past (by decide +kernel)).trans (congrArg _ ((put_past (by decide +kernel)).trans (congrArg _ put_here)))))))
end
def BAt (CB : Addr) (H : Hp) (b dx : Addr) (z : Str) (num : V) (ar : Addr) (n : Int) (l : Option Int) : Prop := H b = some (.ins CB dx (bF z num ar n l))
structure TxB (K : PySem.W.Frag) (CB : Addr) : Prop where
  cl : Cls K CB
  nC : NoAttr K CB "closing"
  nN : NoAttr K CB "number"
  nR : NoAttr K CB "rows"
  nA : NoAttr K CB "atoms"
  nL : NoAttr K CB "last_atoms"
abbrev sB (j : Nat) : Stmt := inClass (top i_Bracket) j
theorem sql_last {K : PySem.W.Frag} {H : Hp} {ar al : Addr} {as : List Addr} (h : H ar = some (.lst (as.map V.ref ++ [V.ref al]))) : SqL K H ar (as.map V.ref ++ [V.ref al]) := SqL.of h
section
variable {P : Program} {w : World} {K : PySem.W.Frag} {mg : Str → Option Value} {base : Heap} {CB : Addr} {cs : Cs} {H : Hp} {Q : VK} {E : XK}
@[irreducible] def spBInit (CB : Addr) : Sp := fun vs H Q _ => ∃ (b dx : Addr) (z : Str) (num : V), vs = [.ref b, .str z, num] ∧ H b = some (.ins CB dx []) ∧ ∀ H' ar al, BAt CB H' b dx z num ar 0 none → H ar = none → H al = none → ar ≠ al → H' ar = some (.lst [.ref al]) → H' al = some (.lst []) → Kept H H' b → Q .non H'
@[irreducible] def spBAdd (CB : Addr) : Sp := fun vs H Q _ => ∃ (b dx x ar al : Addr) (as : List Addr) (its : List V) (z : Str) (num : V) (n m : Int) (l : Option Int), vs = [.ref b, .ref x, .int m] ∧ BAt CB H b dx z num ar n l ∧ H ar = some (.lst (as.map V.ref ++ [V.ref al])) ∧ H al = some (.lst its) ∧ its.length ≤ 1000 ∧
  ∀ H', BAt CB H' b dx z num ar (n + m) (some m) → H' al = some (.lst (its ++ [V.ref x])) → KeptL H H' [b, al] → Q .non H'
@[irreducible] def spBEnd (CB : Addr) : Sp := fun vs H Q _ => ∃ (b dx ar : Addr) (xs : List V) (z : Str) (num : V) (n : Int) (l : Option Int), vs = [.ref b] ∧ BAt CB H b dx z num ar n l ∧ H ar = some (.lst xs) ∧ xs.length ≤ 1000 ∧
  ∀ H' al, BAt CB H' b dx z num ar n none → H al = none → H' al = some (.lst []) → H' ar = some (.lst (xs ++ [V.ref al])) → KeptL H H' [b, ar] → Q .non H'
theorem scBI : FnScope ["self", "closing", "number"] ["self", "closing", "number"] (defScope (sB 0)) := ⟨rfl, rfl, rfl, by decide +kernel, rfl, by decide +kernel, by decide +kernel⟩
theorem scBA : FnScope ["self", "part", "atoms"] ["self", "part", "atoms"] (defScope (sB 1)) := ⟨rfl, rfl, rfl, by decide +kernel, rfl, by decide +kernel, by decide +kernel⟩
theorem scBE : FnScope ["self"] ["self"] (defScope (sB 3)) := ⟨rfl, rfl, rfl, by decide +kernel, rfl, by decide +kernel, by decide +kernel⟩
theorem ok_binit {f : Addr} {fd : FuncData} (F : Fun K "__init__" "Bracket.__init__" (sB 0) f fd) (T : TxB K CB) : FnOk P w K mg base CX0 1 f fd ["self", "closing", "number"] (spBInit CB) := by
  refine F.ok scBI (fun vs H Q E h => ?_) (fun cdv A outer s H vs Q E hr h => ⟨_, pss_cons (ps_fld (pv 0) (pv 1) rfl) (pss_cons (ps_fld (pv 0) (pv 2) rfl) (pss_cons (ps_fld (pv 0) (pe_lst (pa_cons (pe_lst pa_nil) pa_nil)) rfl) (pss_cons (ps_fld (pv 0) pe_int rfl) (pss_one (ps_fld (pv 0) pe_non rfl))))), ?_⟩)
  · unfold spBInit at h
    obtain ⟨_, _, _, _, rfl, _⟩ := h
    rfl
  unfold spBInit at h
  obtain ⟨b, dx, z, num, rfl, hb, hQ⟩ := h
  refine ⟨_, rfl, _, rfl, b, CB, dx, _, rfl, hb, T.cl, T.nC, by show 0 < 1000; decide, ?_⟩
  refine ⟨_, rfl, _, rfl, b, CB, dx, _, rfl, upd_same, T.cl, T.nN, by show 1 < 1000; decide, ?_⟩
  refine ⟨by show 0 ≤ sizeLine; decide, fun al hal => ⟨by show 1 ≤ sizeLine; decide, fun ar har => ?_⟩⟩
  have hba : b ≠ al := ne_of_none upd_same hal
  have hbr : b ≠ ar := ne_of_none (o := .ins CB dx (putF "number" num (putF "closing" (.str z) []))) ((upd_ne hba).trans upd_same) har
  have hra : ar ≠ al := fun e => by rw [e, upd_same] at har; cases har
  refine ⟨_, rfl, b, CB, dx, _, rfl, (upd_ne hbr).trans ((upd_ne hba).trans upd_same), T.cl, T.nR, by show 2 < 1000; decide, ?_⟩
  rw [nf2 (by decide +kernel) (by decide +kernel) (by decide +kernel)]
  refine ⟨_, rfl, b, CB, dx, _, rfl, upd_same, T.cl, T.nA, by show 3 < 1000; decide, ?_⟩
  have e4 : putF "atoms" (.int 0) [(("closing" : Str), V.str z), (("number" : Str), num), (("rows" : Str), V.ref ar)] = [(("closing" : Str), V.str z), (("number" : Str), num), (("rows" : Str), V.ref ar), (("atoms" : Str), V.int 0)] :=
    (put_past (by decide +kernel)).trans (congrArg _ ((put_past (by decide +kernel)).trans (congrArg _ (put_past (by decide +kernel)))))
  rw [e4]
  refine ⟨_, rfl, b, CB, dx, _, rfl, upd_same, T.cl, T.nL, by show 4 < 1000; decide, ?_⟩
  have e5 : putF "last_atoms" .non [(("closing" : Str), V.str z), (("number" : Str), num), (("rows" : Str), V.ref ar), (("atoms" : Str), V.int 0)] = bF z num ar 0 none :=
    (put_past (by decide +kernel)).trans (congrArg _ ((put_past (by decide +kernel)).trans (congrArg _ ((put_past (by decide +kernel)).trans (congrArg _ (put_past (by decide +kernel)))))))
  rw [e5]
  have n1 : H ar = none := by
    rw [upd_ne hra] at har
    rw [upd_ne hbr.symm, upd_ne hbr.symm] at har
    exact har
  have n2 : H al = none := by
    rw [upd_ne hba.symm, upd_ne hba.symm] at hal
    exact hal
  refine hQ _ ar al upd_same n1 n2 hra ?_ ?_ ?_
  · rw [upd_ne hbr.symm, upd_ne hbr.symm, upd_ne hbr.symm]
    exact upd_same
  · rw [upd_ne hba.symm, upd_ne hba.symm, upd_ne hba.symm, upd_ne hra.symm]
    exact upd_same
  · intro x u h n
    rw [upd_ne n, upd_ne n, upd_ne n, upd_ne (ne_of_none h n1), upd_ne (ne_of_none h n2), upd_ne n, upd_ne n]
    exact h
theorem ok_badd {f : Addr} {fd : FuncData} (F : Fun K "add_atom" "Bracket.add_atom" (sB 1) f fd) (T : TxB K CB) : FnOk P w K mg base CX0 1 f fd ["self", "part", "atoms"] (spBAdd CB) := by
  refine F.ok scBA (fun vs H Q E h => ?_) (fun cdv A outer s H vs Q E hr h => ⟨_, pss_cons (ps_expr (pe_bm PySem.F.plainAttrs_list PySem.F.slot_list_append PySem.F.type_list_append mt_append (pe_ix ix_list (pe_fld (pv 0) rfl) (pe_un un_neg pe_int) (fun _ _ => rfl)) (pa_cons (pv 1) pa_nil)))
      (pss_cons (ps_fldaug (pv 0) (pv 2) in_add) (pss_one (ps_fld (pv 0) (pv 2) rfl))), ?_⟩)
  · unfold spBAdd at h
    obtain ⟨_, _, _, _, _, _, _, _, _, _, _, _, rfl, _⟩ := h
    rfl
  unfold spBAdd at h
  obtain ⟨b, dx, x, ar, al, as, its, z, num, n, m, l, rfl, hb, har, hal, hlen, hQ⟩ := h
  refine ⟨_, rfl, b, CB, dx, _, _, rfl, hb, T.cl, T.nR, bF_rows, _, rfl, ar, _, _, _, rfl, rfl, SqL.of har, atI_last _ _, ?_⟩
  refine ⟨.inl ⟨rfl, _, SqL.of hal⟩, _, rfl, al, _, _, rfl, rfl, hal, small1000 hlen, ?_⟩
  have hba : b ≠ al := ne_of hb hal (by intro z; cases z)
  have hb1 : upd H al (.lst (its ++ [V.ref x])) b = some (.ins CB dx (bF z num ar n l)) := (upd_ne hba).trans hb
  refine ⟨_, rfl, b, CB, dx, _, _, rfl, hb1, T.cl, T.nA, bF_atoms, _, rfl, _, _, rfl, rfl, dx, _, hb1, by show 5 < 1000; decide, ?_⟩
  refine ⟨_, rfl, _, rfl, b, CB, dx, _, rfl, upd_same, T.cl, T.nL, ?_, ?_⟩
  · rw [bF_putA]
    show 5 < 1000
    decide
  · rw [bF_putA]
    refine hQ _ (upd_same.trans (congrArg (fun q => some (HO.ins CB dx q)) (bF_putL (k := some m)))) ?_ ?_
    · exact (upd_ne hba.symm).trans ((upd_ne hba.symm).trans upd_same)
    · exact KeptL.upd (KeptL.upd (KeptL.upd (KeptL.of_same fun _ _ h => h) (by simp)) (by simp)) (by simp)
theorem ok_bend {f : Addr} {fd : FuncData} (F : Fun K "end_row" "Bracket.end_row" (sB 3) f fd) (T : TxB K CB) : FnOk P w K mg base CX0 1 f fd ["self"] (spBEnd CB) := by
  refine F.ok scBE (fun vs H Q E h => ?_) (fun cdv A outer s H vs Q E hr h => ⟨_, pss_cons (ps_expr (pe_bm PySem.F.plainAttrs_list PySem.F.slot_list_append PySem.F.type_list_append mt_append (pe_fld (pv 0) rfl) (pa_cons (pe_lst pa_nil) pa_nil))) (pss_one (ps_fld (pv 0) pe_non rfl)), ?_⟩)
  · unfold spBEnd at h
    obtain ⟨_, _, _, _, _, _, _, _, rfl, _⟩ := h
    rfl
  unfold spBEnd at h
  obtain ⟨b, dx, ar, xs, z, num, n, l, rfl, hb, har, hlen, hQ⟩ := h
  refine ⟨_, rfl, b, CB, dx, _, _, rfl, hb, T.cl, T.nR, bF_rows, .inl ⟨rfl, _, SqL.of har⟩, by show 0 ≤ sizeLine; decide, fun al hal => ?_⟩
  have hra : ar ≠ al := ne_of_none har hal
  have hba : b ≠ al := ne_of_none hb hal
  have hbr : b ≠ ar := ne_of hb har (by intro z; cases z)
  refine ⟨ar, _, _, rfl, rfl, (upd_ne hra).trans har, small1000 hlen, ?_⟩
  refine ⟨_, rfl, b, CB, dx, _, rfl, (upd_ne hbr).trans ((upd_ne hba).trans hb), T.cl, T.nL, by show 5 < 1000; decide, ?_⟩
  refine hQ _ al (upd_same.trans (congrArg (fun q => some (HO.ins CB dx q)) (bF_putL (k := none)))) hal ?_ ?_ ?_
  · exact (upd_ne hba.symm).trans ((upd_ne hra.symm).trans upd_same)
  · exact (upd_ne hbr.symm).trans upd_same
  · exact KeptL.upd (KeptL.upd (KeptL.new (KeptL.of_same fun _ _ h => h) hal) (by simp)) (by simp)
end
end Pat
end

section
namespace Pat
open PySem PySem.Spec PyProof.Rows L2
open PySem.FaultX (FaultTxt)
open PatUtf (Fault)
open PatWords (Name)
open Ways (WF FwdW FitsW FitAll oneWF seqsWF altsWF repWF capWF)
theorem Wd.out {K : PySem.W.Frag} {cs : Cs} {M : PM} {F : Hp} {nm : List Name} (h : Wd K cs M F nm) {b : Addr} (hb : F b = none) : M b = none := by
  cases e : M b with
  | none => rfl
  | some i =>
    obtain ⟨⟨rg, ra, h1⟩, _⟩ := h.node b i e
    rw [hb] at h1
    cases h1
/-- a part that was made is frozen -/
theorem Wd.grow {K : PySem.W.Frag} {cs : Cs} {M : PM} {F H : Hp} {nm : List Name} {S : List Addr} {b dx rg ra : Addr} {kd : Kd} {d : Nat} {wf : WF} (h : Wd K cs M F nm) (s : Same F H) (hF : F b = none) (hb : H b = some (.ins (cs.at kd) dx (nF rg ra kd))) (m : b ∈ S)
    (h2 : Aux K (frz F H S) kd) (h3 : Stat nm M ⟨dx, kd, d, wf⟩) (h4 : FwdW wf) : Wd K cs (addM M b ⟨dx, kd, d, wf⟩) (frz F H S) nm :=
  (h.same same_frz).add (h.out hF) ⟨rg, ra, frz_in s m hb⟩ h2 h3 h4
theorem Wd.le {K : PySem.W.Frag} {cs : Cs} {M : PM} {F : Hp} {nm : List Name} (h : Wd K cs M F nm) {b : Addr} {i : Info} (hb : F b = none) : ∀ x j, M x = some j → addM M b i x = some j := addM_old (h.out hb)
theorem kids_fwd {K : PySem.W.Frag} {cs : Cs} {M : PM} {F : Hp} {nm : List Name} (h : Wd K cs M F nm) {d : Nat} : ∀ {bs : List Addr} {ws : List WF}, Kids M d bs ws → ∀ w ∈ ws, FwdW w
  | [], [], _, _, m => nomatch m
  | [], _ :: _, h, _, _ => h.elim
  | _ :: _, [], h, _, _ => h.elim
  | _ :: _, _ :: _, ⟨⟨i, h1, h2, h3⟩, h4⟩, w, m => by
    rcases List.mem_cons.mp m with e | m
    · rw [e, ← h3]
      exact h.fwd _ _ h1
    · exact kids_fwd h h4 w m
def timesN (m : Nat) : Option Nat → Nat
  | some k => k
  | none => max m 1
section
variable {P : Program} {w : World} {K : PySem.W.Frag} {mg : Str → Option Value} {base : Heap} {CB : Addr} {cs : Cs} {H : Hp} {Q : VK} {E : XK}
/-! ### repeat_atom -/
@[irreducible] def spBRep (CB : Addr) (cs : Cs) : Sp := fun vs H Q _ => ∃ (b dx c ar al : Addr) (as : List Addr) (its : List V) (z : Str) (num : V) (n : Int) (s m : Nat) (mo : Option Nat), vs = [.ref b, .int (m : Nat), optN mo] ∧ m ≤ 20 ∧ (∀ k, mo = some k → k ≤ 20) ∧ BAt CB H b dx z num ar n (some (s : Nat)) ∧ H ar = some (.lst (as.map V.ref ++ [V.ref al])) ∧ H al = some (.lst (its ++ [V.ref c])) ∧ its.length ≤ 1000 ∧ ar ≠ al ∧
  ∀ H' b' dx' rg ra, H b' = none → H' b' = some (.ins cs.p dx' (nF rg ra (.rep c m mo))) → BAt CB H' b dx z num ar (n + (((timesN m mo : Nat) : Int) - 1) * (s : Nat)) none → H' al = some (.lst (its ++ [V.ref b'])) → KeptL H H' [b, al] → Q .non H'
theorem scBR : FnScope ["self", "least", "most", "times", "body"] ["self", "least", "most"] (defScope (sB 2)) := ⟨rfl, rfl, rfl, by decide +kernel, rfl, by decide +kernel, by decide +kernel⟩
theorem ok_brep {f : Addr} {fd : FuncData} (F : Fun K "repeat_atom" "Bracket.repeat_atom" (sB 2) f fd) (T : TxB K CB) (hmax : mg "max" = none) (N1 : NOk P w K mg base cs.p 1 "Repetition" ["self", "body", "least", "most"] (spPI cs)) :
    FnOk P w K mg base CX0 4 f fd ["self", "least", "most"] (spBRep CB cs) := by
  obtain ⟨f1, fd1, mk1, gg1, b1, G1⟩ := N1
  refine F.ok scBR (fun vs H Q E h => ?_) (fun cdv A outer s H vs Q E hr h => ⟨_, pss_cons (ps_set (i := 3) scBR.nd rfl (.inl rfl) (pv 2))
      (pss_cons (ps_if (pt_cmpR op_isN (pv 2) pe_non (nomark _)) (pss_one (ps_set (i := 3) scBR.nd rfl (.inl rfl) (pe_callB (call_max2 rfl) (by rfl) hmax (by decide +kernel) (by exact (pa_cons (pv 1) (pa_cons pe_int pa_nil)))))) pss_nil)
      (pss_cons (ps_set (i := 4) scBR.nd rfl (.inl rfl) (pe_bm0 PySem.F.plainAttrs_list PySem.F.slot_list_pop PySem.F.type_list_pop mt_pop (pe_ix ix_list (pe_fld (pv 0) rfl) (pe_un un_neg pe_int) (fun _ _ => rfl))))
      (pss_cons (ps_expr (pe_bm PySem.F.plainAttrs_list PySem.F.slot_list_append PySem.F.type_list_append mt_append (pe_ix ix_list (pe_fld (pv 0) rfl) (pe_un un_neg pe_int) (fun _ _ => rfl)) (by exact (pa_cons (pe_make mk1 G1 (hr.mono (by decide)) rfl gg1 b1 .nil pass0 (by exact (pa_cons (pv 4) (pa_cons (pv 1) (pa_cons (pv 2) pa_nil))))) pa_nil))))
      (pss_cons (ps_fldaug (pv 0) (pe_op op_mul (pe_op op_sub (pv 3) pe_int) (pe_fld (pv 0) rfl)) in_add)
      (pss_one (ps_fld (pv 0) pe_non rfl)))))), ?_⟩)
  · unfold spBRep at h
    obtain ⟨_, _, _, _, _, _, _, _, _, _, _, _, _, rfl, _⟩ := h
    rfl
  unfold spBRep at h
  obtain ⟨b, dx, c, ar, al, as, its, z, num, n, s0, m, mo, rfl, hm, hmo, hb, har, hal, hlen, hra, hQ⟩ := h
  have ht20 : timesN m mo ≤ 20 := by
    unfold timesN
    cases mo with
    | none => show max m 1 ≤ 20; omega
    | some k => exact hmo k rfl
  have tail : tSeq (tAsg (tBM0 K "list" rPop (tOp (rIxL K) (tFld K (tVar 0) "rows") (tUn (rU fun i => V.int (-i)) (tC (V.int 1))))) (gName 4))
      (tSeq (tDrop (tBM K "list" rAppend (tOp (rIxL K) (tFld K (tVar 0) "rows") (tUn (rU fun i => V.int (-i)) (tC (V.int 1)))) (tCons (tMake cs.p (spPI cs) [] E0 (tCons (tVar 4) (tCons (tVar 1) (tCons (tVar 2) tNil)))) tNil)))
      (tSeq (sFldAug K (tVar 0) (tOp (rI CMul fun i j => V.int (i * j)) (tOp (rI0 fun i j => V.int (i - j)) (tVar 3) (tC (V.int 1))) (tFld K (tVar 0) "last_atoms")) rAdd "atoms") (sFld K (tVar 0) (tC V.non) "last_atoms")))
      { nx := fun x H' => Q V.non H', rt := Q } [some (.ref b), some (.int (m : Nat)), some (optN mo), some (.int (timesN m mo : Nat)), none] H := by
    refine ⟨_, rfl, b, CB, dx, _, _, rfl, hb, T.cl, T.nR, bF_rows, _, rfl, ar, _, _, _, rfl, rfl, SqL.of har, atI_last _ _, ?_⟩
    refine ⟨.inl ⟨rfl, _, .inl (.inl hal)⟩, al, _, V.ref c, rfl, rfl, hal, by simp, ?_⟩
    have hdl : (its ++ [V.ref c]).dropLast = its := List.dropLast_concat
    rw [hdl]
    have hba : b ≠ al := ne_of hb hal (by intro z; cases z)
    have n_of : ∀ x : Addr, H x = none → x ≠ al := fun x hx e => by rw [e, hal] at hx; cases hx
    have hb1 : upd H al (.lst its) b = some (.ins CB dx (bF z num ar n (some (s0 : Nat)))) := (upd_ne hba).trans hb
    have har1 : upd H al (.lst its) ar = some (.lst (as.map V.ref ++ [V.ref al])) := (upd_ne hra).trans har
    refine ⟨_, rfl, b, CB, dx, _, _, rfl, hb1, T.cl, T.nR, bF_rows, _, rfl, ar, _, _, _, rfl, rfl, SqL.of har1, atI_last _ _, ?_⟩
    refine ⟨.inl ⟨rfl, _, SqL.of upd_same⟩, _, rfl, _, rfl, _, rfl, fun b' dx' hn hdx' hne' => ?_⟩
    refine pi_use ⟨upd_same, fun H2 rg ra hb' k2 => ⟨rfl, ?_⟩⟩
    have s2 := made_same hn hdx' k2
    have hnn : H b' = none := by
      by_cases e : b' = al
      · rw [e, upd_same] at hn
        cases hn
      · rw [upd_ne e] at hn
        exact hn
    have hb'a : b' ≠ al := n_of b' hnn
    refine ⟨al, _, _, rfl, rfl, s2 _ _ upd_same, small1000 hlen, ?_⟩
    have hb2 : upd H2 al (.lst (its ++ [V.ref b'])) b = some (.ins CB dx (bF z num ar n (some (s0 : Nat)))) := (upd_ne hba).trans (s2 _ _ hb1)
    refine ⟨_, rfl, b, CB, dx, _, _, rfl, hb2, T.cl, T.nA, bF_atoms, _, rfl, _, _, rfl, rfl, _, rfl, b, CB, dx, _, _, rfl, hb2, T.cl, T.nL, bF_last, _, _, rfl, rfl, .inl ⟨by omega, by omega⟩, _, _, rfl, rfl, dx, _, hb2, by show 5 < 1000; decide, ?_⟩
    refine ⟨_, rfl, b, CB, dx, _, rfl, upd_same, T.cl, T.nL, ?_, ?_⟩
    · rw [bF_putA]
      show 5 < 1000
      decide
    · rw [bF_putA]
      have hbb' : b' ≠ b := fun e => by rw [e, hb] at hnn; cases hnn
      refine hQ _ b' dx' rg ra hnn ?_ (upd_same.trans (congrArg (fun q => some (HO.ins CB dx q)) (bF_putL (k := none)))) ?_ ?_
      · rw [upd_ne hbb', upd_ne hbb', upd_ne hb'a]
        exact hb'
      · exact (upd_ne hba.symm).trans ((upd_ne hba.symm).trans upd_same)
      · have k1 : KeptL H H2 [b, al] := (KeptL.upd (KeptL.of_same fun _ _ h => h) (by simp)).trans (KeptL.of_same s2)
        exact KeptL.upd (KeptL.upd (KeptL.upd k1 (by simp)) (by simp)) (by simp)
  refine ⟨_, rfl, _, rfl, rfl, _, rfl, ?_⟩
  cases mo with
  | none =>
    refine if_true_of rfl ?_
    refine ⟨_, rfl, _, _, rfl, ?_⟩
    have em : (if (1 : Int) > (m : Nat) then (1 : Int) else (m : Nat)) = ((timesN m none : Nat) : Int) := by
      show _ = ((max m 1 : Nat) : Int)
      by_cases c : (1 : Int) > (m : Nat)
      · rw [if_pos c]
        omega
      · rw [if_neg c]
        omega
    rw [em]
    exact tail
  | some k =>
    exact if_false_of rfl tail
/-! ### row_of, choice_of -/
abbrev sRowOf : Stmt := top i_row_of
abbrev sChOf : Stmt := top i_choice_of
/-- one alone, or a new part of a class C -/
def OneOr (C : Addr) (fs : Addr → Addr → Addr → List (Str × V)) : Sp := fun vs H Q _ => ∃ (al : Addr) (bs : List Addr), vs = [.ref al] ∧ H al = some (.lst (bs.map V.ref)) ∧ (∀ x, bs = [x] → Q (.ref x) H) ∧
  (bs.length ≠ 1 → ∀ H' b dx rg ra, H b = none → H' b = some (.ins C dx (fs al rg ra)) → Same H H' → Q (.ref b) H')
@[irreducible] def spRowOf (cs : Cs) : Sp := OneOr cs.r fun al rg ra => nF rg ra (.row al [])
@[irreducible] def spChOf (cs : Cs) : Sp := OneOr cs.c fun al rg ra => nF rg ra (.choice al [])
theorem scRowOf : FnScope ["steps"] ["steps"] (defScope sRowOf) := ⟨rfl, rfl, rfl, by decide +kernel, rfl, by decide +kernel, by decide +kernel⟩
theorem scChOf : FnScope ["rows"] ["rows"] (defScope sChOf) := ⟨rfl, rfl, rfl, by decide +kernel, rfl, by decide +kernel, by decide +kernel⟩
theorem len1 {bs : List Addr} (h : bs.length = 1) : ∃ x, bs = [x] := by
  match bs, h with
  | [x], _ => exact ⟨x, rfl⟩
theorem ok_rowof {f : Addr} {fd : FuncData} (F : Fun K "row_of" "row_of" sRowOf f fd) (hlen : mg "len" = none) (N1 : NOk P w K mg base cs.r 1 "Row" ["self", "steps"] (spRI cs)) : FnOk P w K mg base CX0 3 f fd ["steps"] (spRowOf cs) := by
  obtain ⟨f1, fd1, mk1, gg1, b1, G1⟩ := N1
  refine F.ok scRowOf (fun vs H Q E h => ?_) (fun cdv A outer s H vs Q E hr h => ⟨_, pss_cons (ps_if (pt_cmpR op_eq (pe_callB call_len_seq (by rfl) hlen PySem.boot_len (pa_cons (pv 0) pa_nil)) pe_int (nomark _)) (pss_one (ps_ret (pe_ix ix_list (pv 0) pe_int (fun _ _ => rfl)))) pss_nil)
      (pss_one (ps_ret (pe_make mk1 G1 hr rfl gg1 b1 .nil pass0 (by exact (pa_cons (pv 0) pa_nil))))), ?_⟩)
  · unfold spRowOf at h
    obtain ⟨_, _, rfl, _⟩ := h
    rfl
  unfold spRowOf at h
  obtain ⟨al, bs, rfl, hal, h1, h2⟩ := h
  refine ⟨_, rfl, al, _, rfl, .inl (SqL.of hal), rfl, _, rfl, ?_⟩
  rw [List.length_map]
  by_cases c : bs.length = 1
  · obtain ⟨x, rfl⟩ := len1 c
    exact if_true_of rfl ⟨_, rfl, al, _, _, _, rfl, rfl, SqL.of hal, atI_nat (j := 0) rfl, h1 x rfl⟩
  · refine if_false_of (decide_eq_false fun e => c (by injection e with e; omega)) ?_
    refine ⟨_, rfl, fun x dxx hx hdx hne => ?_⟩
    refine ri_use ⟨upd_same, fun H8 rg ra hb8 k8 => ⟨rfl, ?_⟩⟩
    exact h2 c H8 x dxx rg ra hx hb8 (made_same hx hdx k8)
theorem ok_chof {f : Addr} {fd : FuncData} (F : Fun K "choice_of" "choice_of" sChOf f fd) (hlen : mg "len" = none) (N1 : NOk P w K mg base cs.c 1 "Choice" ["self", "rows"] (spCI cs)) : FnOk P w K mg base CX0 3 f fd ["rows"] (spChOf cs) := by
  obtain ⟨f1, fd1, mk1, gg1, b1, G1⟩ := N1
  refine F.ok scChOf (fun vs H Q E h => ?_) (fun cdv A outer s H vs Q E hr h => ⟨_, pss_cons (ps_if (pt_cmpR op_eq (pe_callB call_len_seq (by rfl) hlen PySem.boot_len (pa_cons (pv 0) pa_nil)) pe_int (nomark _)) (pss_one (ps_ret (pe_ix ix_list (pv 0) pe_int (fun _ _ => rfl)))) pss_nil)
      (pss_one (ps_ret (pe_make mk1 G1 hr rfl gg1 b1 .nil pass0 (by exact (pa_cons (pv 0) pa_nil))))), ?_⟩)
  · unfold spChOf at h
    obtain ⟨_, _, rfl, _⟩ := h
    rfl
  unfold spChOf at h
  obtain ⟨al, bs, rfl, hal, h1, h2⟩ := h
  refine ⟨_, rfl, al, _, rfl, .inl (SqL.of hal), rfl, _, rfl, ?_⟩
  rw [List.length_map]
  by_cases c : bs.length = 1
  · obtain ⟨x, rfl⟩ := len1 c
    exact if_true_of rfl ⟨_, rfl, al, _, _, _, rfl, rfl, SqL.of hal, atI_nat (j := 0) rfl, h1 x rfl⟩
  · refine if_false_of (decide_eq_false fun e => c (by injection e with e; omega)) ?_
    refine ⟨_, rfl, fun x dxx hx hdx hne => ?_⟩
    refine ci_use ⟨upd_same, fun H8 rg ra hb8 k8 => ⟨rfl, ?_⟩⟩
    exact h2 c H8 x dxx rg ra hx hb8 (made_same hx hdx k8)
end
end Pat
end

section
namespace Pat
open PySem PySem.Spec PyProof.Rows L2
open PySem.FaultX (FaultTxt)
open PatUtf (Fault)
open PatWords (Name)
open Ways (WF FwdW FitsW FitAll oneWF seqsWF altsWF repWF capWF)
/-! ### made_part -/
abbrev Rws := List (Addr × List Addr)
/-- the rows of a bracket, each a list of parts -/
def RowsAt (H : Hp) (rows : Rws) : Prop := ∀ r ∈ rows, H r.1 = some (.lst (r.2.map V.ref))
def RowsFit (M : PM) (D : Nat) : Rws → List (List PatWords.Pat) → Prop
  | [], [] => True
  | r :: rs, ps :: pss => AllFit M D r.2 ps ∧ RowsFit M D rs pss
  | _, _ => False
theorem RowsFit.mono {M M' : PM} {D D' : Nat} (hm : ∀ b i, M b = some i → M' b = some i) (hd : D ≤ D') : ∀ {rs : Rws} {pss : List (List PatWords.Pat)}, RowsFit M D rs pss → RowsFit M' D' rs pss
  | [], [], _ => trivial
  | [], _ :: _, h => h.elim
  | _ :: _, [], h => h.elim
  | _ :: _, _ :: _, ⟨h1, h2⟩ => ⟨h1.mono hm hd, RowsFit.mono hm hd h2⟩
theorem RowsFit.len {M : PM} {D : Nat} : ∀ {rs : Rws} {pss : List (List PatWords.Pat)}, RowsFit M D rs pss → rs.length = pss.length
  | [], [], _ => rfl
  | [], _ :: _, h => h.elim
  | _ :: _, [], h => h.elim
  | _ :: _, _ :: _, ⟨_, h2⟩ => congrArg (· + 1) (RowsFit.len h2)
theorem RowsFit.get {M : PM} {D : Nat} : ∀ {rs : Rws} {pss : List (List PatWords.Pat)} {i : Nat} {r : Addr × List Addr}, RowsFit M D rs pss → rs[i]? = some r → ∃ ps, pss[i]? = some ps ∧ AllFit M D r.2 ps
  | [], [], _, _, _, e => nomatch e
  | [], _ :: _, _, _, h, _ => h.elim
  | _ :: _, [], _, _, h, _ => h.elim
  | r :: rs, ps :: pss, 0, u, ⟨h1, h2⟩, e => by
    cases e
    exact ⟨ps, rfl, h1⟩
  | r :: rs, ps :: pss, i + 1, u, ⟨h1, h2⟩, e => RowsFit.get (rs := rs) (pss := pss) (i := i) h2 e
def nameV (nm : List Name) (num : V) : Option Name → Prop
  | none => num = .non
  | some n => ∃ k : Nat, num = .int (k : Nat) ∧ nm[k]? = some n
def atomOf (p : PatWords.Pat) : Option Name → PatWords.Pat
  | none => p
  | some n => .cap n p
/-- what was frozen anew was new, or a row, or a tuple -/
def Grown (H : Hp) (rows : List Addr) (F F' : Hp) : Prop := ∀ y, F' y ≠ none → F y ≠ none ∨ H y = none ∨ y ∈ rows ∨ isTup (H y) = true
section
variable {P : Program} {w : World} {K : PySem.W.Frag} {mg : Str → Option Value} {base : Heap} {CB : Addr} {cs : Cs} {H : Hp} {Q : VK} {E : XK}
/-- what a call that makes a part of frozen ones wishes for -/
def Makes (K : PySem.W.Frag) (cs : Cs) (nm : List Name) (M : PM) (F H : Hp) (rows : List Addr) (p : PatWords.Pat) (D : Nat) (Q : VK) : Prop :=
  ∀ H' M' F' x, Same H H' → Same F F' → Same F' H' → (∀ b i, M b = some i → M' b = some i) → Wd K cs M' F' nm → Grown H rows F F' → Fits M' x p D → Q (.ref x) H'
@[irreducible] def spMade (K : PySem.W.Frag) (CB : Addr) (cs : Cs) : Sp := fun vs H Q _ => ∃ (b dx ar : Addr) (z : Str) (num : V) (n : Int) (l : Option Int) (rows : Rws) (pss : List (List PatWords.Pat)) (M : PM) (F : Hp) (nm : List Name) (name : Option Name) (D : Nat), vs = [.ref b] ∧ BAt CB H b dx z num ar n l ∧ H ar = some (.lst (rows.map fun r => V.ref r.1)) ∧ RowsAt H rows ∧ RowsFit M D rows pss ∧ rows ≠ [] ∧ rows.length ≤ 1000 ∧ (∀ r ∈ rows, r.2.length ≤ 1000) ∧
  Wd K cs M F nm ∧ Same F H ∧ nameV nm num name ∧ Makes K cs nm M F H (rows.map (·.1)) (atomOf (Mach.alts (pss.map Mach.seqs)) name) (D + 3) Q
theorem scMade : FnScope ["self", "choice", "steps"] ["self"] (defScope (sB 4)) := ⟨rfl, rfl, rfl, by decide +kernel, rfl, by decide +kernel, by decide +kernel⟩
theorem tup_same {H H' : Hp} (s : Same H H') {y : Addr} (h : isTup (H' y) = true) : H y = none ∨ isTup (H y) = true := by
  cases e : H y with
  | none => exact .inl rfl
  | some o =>
    right
    rw [← s _ _ e]
    exact h
/-- one more frozen -/
theorem Grown.frz {rows : List Addr} {F F1 H1 : Hp} {S : List Addr} (g : Grown H rows F F1) (s : Same H H1) (hS : ∀ y ∈ S, H y = none ∨ y ∈ rows) : Grown H rows F (frz F1 H1 S) := fun y hy => by
  unfold Pat.frz at hy
  cases e : F1 y with
  | some o => exact g y (by rw [e]; exact fun h => nomatch h)
  | none =>
    rw [e] at hy
    dsimp only at hy
    split at hy
    · rename_i c
      rcases c with c | c
      · rcases hS y c with h | h
        · exact .inr (.inl h)
        · exact .inr (.inr (.inl h))
      · rcases tup_same s c with h | h
        · exact .inr (.inl h)
        · exact .inr (.inr (.inr h))
    · exact absurd rfl hy
theorem ok_made {f : Addr} {fd : FuncData} (F : Fun K "made_part" "Bracket.made_part" (sB 4) f fd) (T : TxB K CB) (G1 : GOk P w K mg base CX0 3 "row_of" ["steps"] (spRowOf cs)) (G2 : GOk P w K mg base CX0 3 "choice_of" ["rows"] (spChOf cs))
    (N3 : NOk P w K mg base cs.k 1 "Capture" ["self", "number", "body"] (spKI cs)) : FnOk P w K mg base CX0 4 f fd ["self"] (spMade K CB cs) := by
  obtain ⟨f1, fd1, gg1, k1, b1, G1⟩ := G1
  obtain ⟨f2, fd2, gg2, k2, b2, G2⟩ := G2
  obtain ⟨f3, fd3, mk3, gg3, b3, G3⟩ := N3
  refine F.ok scMade (fun vs H Q E h => ?_) (fun cdv A outer s H vs Q E hr h => ⟨_, pss_cons (ps_set (i := 1) scMade.nd rfl (.inl rfl) (pe_call G2 hr rfl gg2 k2 b2 .nil pass0 (by exact (pa_cons
        (pe_lc (own := [("steps", 2)]) (g := gName 2) (tt := tYes) (te := tCall (spRowOf cs) [] E0 (tCons (tVar 2) tNil)) rfl scMade.nd (pi_list (pe_fld (pv 0) rfl)) (blkOk_by (N := ["self", "choice", "steps"]) (sc := defScope (sB 4)) (by decide +kernel)) (fun _ _ _ _ _ => pg_name (i := 2) scMade.nd rfl (Or.inl rfl)) (fun _ _ _ _ _ => pts_nil)
          (fun _ _ _ _ _ => by exact (pe_call G1 hr rfl gg1 k1 b1 .nil pass0 (by exact (pa_cons (pv 2) pa_nil))))) pa_nil))))
      (pss_cons (ps_if (pt_cmpR op_isN (pe_fld (pv 0) rfl) pe_non (nomark _)) (pss_one (ps_ret (pv 1))) pss_nil)
      (pss_one (ps_ret (pe_make mk3 G3 (hr.mono (by decide)) rfl gg3 b3 .nil pass0 (by exact (pa_cons (pe_fld (pv 0) rfl) (pa_cons (pv 1) pa_nil))))))), ?_⟩)
  · unfold spMade at h
    obtain ⟨_, _, _, _, _, _, _, _, _, _, _, _, _, _, rfl, _⟩ := h
    rfl
  unfold spMade at h
  obtain ⟨b, dx, ar, z, num, n, l, rows, pss, M, F0, nm, name, D, rfl, hb, har, hrows, hfit, hne, hlr, hl1, hW, hs, hnum, hQ⟩ := h
  have hplen := hfit.len
  refine ⟨_, rfl, b, CB, dx, _, _, rfl, hb, T.cl, T.nR, bF_rows, ar, rfl, ⟨_, SqL.of har⟩, fun L hL => lc_list (xs := rows.map fun r => V.ref r.1) (fun i H' => ∃ (M' : PM) (F' : Hp) (xs : List Addr), H' L = some (.lst (xs.map V.ref)) ∧ Same H H' ∧ Same F0 F' ∧ Same F' H' ∧ F' L = none ∧ (∀ b i, M b = some i → M' b = some i) ∧ Wd K cs M' F' nm ∧ Grown H (rows.map (·.1)) F0 F' ∧ AllFit M' (D + 1) xs ((pss.take i).map Mach.seqs)) ?_ (fun i H' _ h => ?_) ?_ ?_⟩
  · exact ⟨M, F0, [], upd_same, Same.upd hL, fun _ _ h => h, Same.upd' hs (none_same hs hL), none_same hs hL, fun _ _ h => h, hW, fun y h => .inl h, trivial⟩
  · obtain ⟨_, _, _, _, s1, _⟩ := h
    exact SqL.of (s1 _ _ har)
  · rintro i x H1 hx ⟨M1, F1, xs, eL, s1, sF, sFH, hFL, hM, hW1, hg, hfx⟩
    rw [List.getElem?_map] at hx
    cases er : rows[i]? with
    | none => rw [er] at hx; cases hx
    | some r =>
      rw [er] at hx
      cases hx
      obtain ⟨ps, eps, hps⟩ := hfit.get er
      have hrm : r ∈ rows := List.mem_of_getElem? er
      have etk : (pss.take (i + 1)).map Mach.seqs = (pss.take i).map Mach.seqs ++ [Mach.seqs ps] := by
        rw [List.take_add_one, eps, List.map_append]
        rfl
      have hxl : xs.length ≤ 1000 := by
        rw [hfx.len, List.length_map, List.length_take]
        omega
      have hps1 := hps.mono hM (Nat.le_refl D)
      refine ⟨rfl, ?_⟩
      unfold tYes
      dsimp only
      rw [if_pos rfl]
      refine ⟨_, rfl, ?_⟩
      unfold spRowOf
      refine ⟨r.1, r.2, rfl, s1 _ _ (hrows r hrm), ?_, ?_⟩
      · -- one step alone
        intro c ec
        refine ⟨_, eL, small1000 (by rw [List.length_map]; exact hxl), M1, F1, xs ++ [c], ?_, Same.upd' s1 hL, sF, Same.upd' sFH hFL, hFL, hM, hW1, hg, ?_⟩
        · rw [upd_same, List.map_append]
          rfl
        · rw [etk]
          refine AllFit.snoc ?_ hfx
          rw [ec] at hps1
          cases ps with
          | nil => exact hps1.elim
          | cons p ps =>
            cases ps with
            | cons q ps => exact hps1.2.elim
            | nil =>
              obtain ⟨j, h1, h2, h3⟩ := hps1.1
              exact ⟨j, h1, Nat.le_succ_of_le h2, Ways.fits_seq1 h3⟩
      · intro hn1 H2 c dxc rg ra hc hc2 s2
        have hcH : H c = none := none_same s1 hc
        have hcL : L ≠ c := ne_of_none eL hc
        have s12 := Same.trans s1 s2
        have sF2 := Same.trans sFH s2
        have hFc : F1 c = none := none_same sFH hc
        obtain ⟨ws, hk, hfw⟩ := hps1.kids
        have hkd : Aux K (frz F1 H2 [c, r.1]) (.row r.1 r.2) := frz_in sF2 (by simp) (s12 _ _ (hrows r hrm))
        have hst : Stat nm M1 ⟨dxc, .row r.1 r.2, D + 1, seqsWF ws⟩ := ⟨hl1 r hrm, ws, hk, rfl⟩
        have hfw2 := Ways.fwd_seqs (kids_fwd hW1 hk)
        have hW2 := hW1.grow sF2 hFc (S := [c, r.1]) (dx := dxc) (rg := rg) (ra := ra) (kd := .row r.1 r.2) (d := D + 1) (wf := seqsWF ws) hc2 (by simp) hkd hst hfw2
        have hM2 := hW1.le (b := c) (i := ⟨dxc, .row r.1 r.2, D + 1, seqsWF ws⟩) hFc
        have eL2 : H2 L = some (.lst (xs.map V.ref)) := s2 _ _ eL
        have hrL : L ≠ r.1 := fun e => by
          have := hrows r hrm
          rw [← e, hL] at this
          cases this
        have hFL2 : frz F1 H2 [c, r.1] L = none := frz_out hFL (by simp [hcL, hrL]) (by rw [eL2]; rfl)
        refine ⟨_, eL2, small1000 (by rw [List.length_map]; exact hxl), addM M1 c _, frz F1 H2 [c, r.1], xs ++ [c], ?_, Same.upd' s12 hL, Same.trans sF same_frz, Same.upd' (frz_same sF2) hFL2, hFL2, fun b i h => hM2 b i (hM b i h), hW2, ?_, ?_⟩
        · rw [upd_same, List.map_append]
          rfl
        · refine Grown.frz hg s12 fun y hy => ?_
          rcases List.mem_cons.mp hy with e | hy
          · rw [e]
            exact .inl hcH
          · rw [List.mem_singleton.mp hy]
            exact .inr (List.mem_map.mpr ⟨r, hrm, rfl⟩)
        · rw [etk]
          exact AllFit.snoc ⟨_, addM_same, Nat.le_refl _, Ways.fits_seqs hfw⟩ (hfx.mono hM2 (Nat.le_refl _))
  · rintro H1 ⟨M1, F1, xs, eL, s1, sF, sFH, hFL, hM, hW1, hg, hfx⟩
    have etk : pss.take (rows.map fun r => V.ref r.1).length = pss := List.take_of_length_le (by rw [List.length_map]; omega)
    rw [etk] at hfx
    have hxl : xs.length ≤ 1000 := by
      rw [hfx.len, List.length_map]
      omega
    have hxne : xs ≠ [] := fun e => by
      have := hfx.len
      rw [e, List.length_map, List.length_nil] at this
      cases rows with
      | nil => exact hne rfl
      | cons r rs => rw [List.length_cons] at hplen; omega
    -- behind the choice
    have tail : ∀ (H2 : Hp) (M2 : PM) (F2 : Hp) (x : Addr), Same H H2 → Same F0 F2 → Same F2 H2 → (∀ b i, M b = some i → M2 b = some i) → Wd K cs M2 F2 nm → Grown H (rows.map (·.1)) F0 F2 → Fits M2 x (Mach.alts (pss.map Mach.seqs)) (D + 2) →
        (tSeq (tIfS (tTest (tOp (fun x y H Q => y = V.non ∧ Q (V.bl (decide (x = V.non))) H) (tFld K (tVar 0) "number") (tC V.non))) (tRet (tVar 1)) tNext) (tRet (tMake cs.k (spKI cs) [] E0 (tCons (tFld K (tVar 0) "number") (tCons (tVar 1) tNil))))) { nx := fun _ H' => Q .non H', rt := Q } [some (.ref b), some (.ref x), none] H2 := by
      intro H2 M2 F2 x s2 sF2 sFH2 hM2 hW2 hg2 hx2
      have hb2 : BAt CB H2 b dx z num ar n l := s2 _ _ hb
      refine ⟨_, rfl, b, CB, dx, _, _, rfl, hb2, T.cl, T.nN, bF_number, rfl, _, rfl, ?_⟩
      cases name with
      | none =>
        have hnum : num = .non := hnum
        refine if_true_of (decide_eq_true hnum) ⟨_, rfl, ?_⟩
        exact hQ H2 M2 F2 x s2 sF2 sFH2 hM2 hW2 hg2 (hx2.mono (fun _ _ h => h) (Nat.le_succ _))
      | some nme =>
        obtain ⟨k, hk, hnk⟩ : ∃ k : Nat, num = .int (k : Nat) ∧ nm[k]? = some nme := hnum
        subst hk
        refine if_false_of rfl ?_
        refine ⟨_, rfl, b, CB, dx, _, _, rfl, hb2, T.cl, T.nN, bF_number, _, rfl, fun c dxc hc hdc hne => ?_⟩
        refine ki_use ⟨upd_same, fun H3 rg ra hc3 k3 => ⟨rfl, ?_⟩⟩
        have s3 := made_same hc hdc k3
        have hcH : H c = none := none_same s2 hc
        have hFc : F2 c = none := none_same sFH2 hc
        have sF3 := Same.trans sFH2 s3
        obtain ⟨j, hj1, hj2, hj3⟩ := hx2
        have hst : Stat nm M2 ⟨dxc, .cap k x, D + 3, capWF nme j.wf⟩ := ⟨j, nme, hj1, Nat.lt_succ_of_le hj2, hnk, rfl⟩
        have hW3 := hW2.grow sF3 hFc (S := [c]) (dx := dxc) (rg := rg) (ra := ra) (kd := .cap k x) (d := D + 3) (wf := capWF nme j.wf) hc3 (by simp) trivial hst (Ways.fwd_cap (hW2.fwd _ _ hj1))
        refine hQ H3 _ (frz F2 H3 [c]) c (Same.trans s2 s3) (Same.trans sF2 same_frz) (frz_same sF3) (fun y i h => hW2.le hFc y i (hM2 y i h)) hW3 (Grown.frz hg2 (Same.trans s2 s3) fun y hy => ?_) ⟨_, addM_same, Nat.le_refl _, Ways.fits_cap hj3⟩
        rw [List.mem_singleton.mp hy]
        exact .inl hcH
    show spChOf cs [.ref L] H1 _ E0
    unfold spChOf
    refine ⟨L, xs, rfl, eL, ?_, ?_⟩
    · -- one row alone
      intro x ex
      rw [ex] at hfx
      refine tail H1 M1 F1 x s1 sF sFH hM hW1 hg ?_
      cases pss with
      | nil => exact hfx.elim
      | cons ps pss =>
        cases pss with
        | cons qs pss => exact hfx.2.elim
        | nil =>
          exact hfx.1.mono (fun _ _ h => h) (Nat.le_succ _)
    · intro hn1 H2 c dxc rg ra hc hc2 s2
      have hcH : H c = none := none_same s1 hc
      have hFc : F1 c = none := none_same sFH hc
      have sF2 := Same.trans sFH s2
      obtain ⟨ws, hk, hfw⟩ := hfx.kids
      have hwne : ws ≠ [] := fun e => by
        rw [e] at hk
        cases xs with
        | nil => exact hxne rfl
        | cons y ys => exact hk.elim
      have hkd : Aux K (frz F1 H2 [c, L]) (.choice L xs) := frz_in sF2 (by simp) (s2 _ _ eL)
      have hst : Stat nm M1 ⟨dxc, .choice L xs, D + 2, altsWF ws⟩ := ⟨hxl, ws, hk, rfl⟩
      have hW2 := hW1.grow sF2 hFc (S := [c, L]) (dx := dxc) (rg := rg) (ra := ra) (kd := .choice L xs) (d := D + 2) (wf := altsWF ws) hc2 (by simp) hkd hst (Ways.fwd_alts (kids_fwd hW1 hk))
      refine tail H2 _ (frz F1 H2 [c, L]) c (Same.trans s1 s2) (Same.trans sF same_frz) (frz_same sF2) (fun y i h => hW1.le hFc y i (hM y i h)) hW2 (Grown.frz hg (Same.trans s1 s2) fun y hy => ?_) ⟨_, addM_same, Nat.le_refl _, Ways.fits_alts hfw hwne⟩
      rcases List.mem_cons.mp hy with e | hy
      · rw [e]
        exact .inl hcH
      · rw [List.mem_singleton.mp hy]
        exact .inl hL
end
end Pat
end

section
namespace Pat
open PySem PySem.Spec PyProof.Rows L2
open PySem.FaultX (FaultTxt)
open PatUtf (Fault)
open PatWords (Pat repP Name)
open Mach (Fr)
open Ways (WF FwdW FitsW FitAll oneWF seqsWF altsWF repWF capWF)
/-! ### sizes -/
def fsize (fr : Fr) : Nat := (fr.rows.map Pat.size).sum + (fr.items.map Pat.size).sum
theorem seqs_size : ∀ l : List Pat, (Mach.seqs l).size = (l.map Pat.size).sum
  | [] => rfl
  | a :: l => by
    show a.size + (Mach.seqs l).size = _
    rw [seqs_size l, List.map_cons, List.sum_cons]
theorem alts_size : ∀ l : List Pat, (Mach.alts l).size = (l.map Pat.size).sum
  | [] => rfl
  | [a] => by simp [Mach.alts]
  | a :: b :: l => by
    show a.size + (Mach.alts (b :: l)).size = ((a :: b :: l).map Pat.size).sum
    simp only [alts_size (b :: l), List.map_cons, List.sum_cons]
theorem pat_size (fr : Fr) : fr.pat.size = fsize fr := by
  unfold Mach.Fr.pat fsize
  rw [alts_size, List.map_append, List.sum_append, List.map_singleton, List.sum_singleton, seqs_size]
theorem atom_size (fr : Fr) : fr.atom.size = fsize fr := by
  unfold Mach.Fr.atom
  cases fr.name with
  | none => exact pat_size fr
  | some n =>
    show fr.pat.size = _
    exact pat_size fr
def flast (fr : Fr) : Option Int := if fr.last = true then some (((fr.items.getLast?.getD .nothing).size : Nat) : Int) else none
def fclose (fr : Fr) : Str := ⟨(fr.close.map (·.toNat)).toArray⟩
theorem push_size (fr : Fr) (a : Pat) : fsize (fr.push a) = fsize fr + a.size := by
  unfold fsize Mach.Fr.push
  simp only [List.map_append, List.sum_append, List.map_singleton, List.sum_singleton]
  omega
theorem push_last (fr : Fr) (a : Pat) : flast (fr.push a) = some ((a.size : Nat) : Int) := by
  unfold flast Mach.Fr.push
  simp
theorem bar_size (fr : Fr) : fsize fr.bar = fsize fr := by
  unfold fsize Mach.Fr.bar
  simp only [List.map_append, List.sum_append, List.map_singleton, List.sum_singleton, seqs_size, List.map_nil, List.sum_nil]
  omega
theorem bar_last (fr : Fr) : flast fr.bar = none := rfl
theorem swap_last (fr : Fr) (a : Pat) : flast (fr.swap a) = none := rfl
/-! ### the pile of brackets in the heap -/
structure Bk where
  b : Addr
  dx : Addr
  ar : Addr
  num : V
  rows : Rws
def Bk.foot (k : Bk) : List Addr := k.b :: k.ar :: k.rows.map (·.1)
def foots (ks : List Bk) : List Addr := ks.flatMap Bk.foot
/-- a bracket, h of them below it, as far as p has been read -/
structure BrOk (CB : Addr) (H : Hp) (M : PM) (nm : List Name) (p h : Nat) (k : Bk) (fr : Fr) : Prop where
  at_ : BAt CB H k.b k.dx (fclose fr) k.num k.ar ((fsize fr : Nat) : Int) (flast fr)
  arl : H k.ar = some (.lst (k.rows.map fun r => V.ref r.1))
  rws : RowsAt H k.rows
  fit : ∃ rss, RowsFit M (3 * (p - h) / 2) k.rows (rss ++ [fr.items]) ∧ fr.rows = rss.map Mach.seqs
  num : nameV nm k.num fr.name
  last : fr.last = true → fr.items ≠ []
  clo : fr.close.length ≤ 1
  out : h = 0 → fr.close = [] ∧ fr.name = none
  rlen : k.rows.length ≤ p + 1
  ilen : ∀ r ∈ k.rows, r.2.length ≤ p
def Stk (CB : Addr) (H : Hp) (M : PM) (nm : List Name) (p : Nat) : List Bk → List Fr → Prop
  | [], [] => True
  | k :: ks, fr :: frs => BrOk CB H M nm p frs.length k fr ∧ Stk CB H M nm p ks frs
  | _, _ => False
def Sep (A B : List Addr) : Prop := ∀ x ∈ A, x ∉ B
def Foots : List Bk → Prop
  | [] => True
  | k :: ks => k.foot.Nodup ∧ Sep k.foot (foots ks) ∧ Foots ks
theorem foots_cons {k : Bk} {ks : List Bk} : foots (k :: ks) = k.foot ++ foots ks := rfl
theorem nameV.mono {nm nm' : List Name} {num : V} {o : Option Name} (h : nameV nm num o) (hn : ∀ (k : Nat) (n : Name), nm[k]? = some n → nm'[k]? = some n) : nameV nm' num o := by
  cases o with
  | none => exact h
  | some n =>
    obtain ⟨k, h1, h2⟩ := h
    exact ⟨k, h1, hn _ _ h2⟩
theorem BrOk.keep {CB : Addr} {H H' : Hp} {M M' : PM} {nm nm' : List Name} {p p' h : Nat} {k : Bk} {fr : Fr} (x : BrOk CB H M nm p h k fr) (kk : ∀ b o, H b = some o → b ∈ k.foot → H' b = some o) (hM : ∀ b i, M b = some i → M' b = some i)
    (hn : ∀ (k : Nat) (n : Name), nm[k]? = some n → nm'[k]? = some n) (hp : p ≤ p') : BrOk CB H' M' nm' p' h k fr where
  at_ := kk _ _ x.at_ (List.mem_cons_self ..)
  arl := kk _ _ x.arl (List.mem_cons_of_mem _ (List.mem_cons_self ..))
  rws := fun r m => kk _ _ (x.rws r m) (List.mem_cons_of_mem _ (List.mem_cons_of_mem _ (List.mem_map.mpr ⟨r, m, rfl⟩)))
  fit := by
    obtain ⟨rss, h1, h2⟩ := x.fit
    exact ⟨rss, h1.mono hM (by omega), h2⟩
  num := x.num.mono hn
  last := x.last
  clo := x.clo
  out := x.out
  rlen := Nat.le_trans x.rlen (by omega)
  ilen := fun r m => Nat.le_trans (x.ilen r m) hp
theorem Stk.keep {CB : Addr} {H H' : Hp} {M M' : PM} {nm nm' : List Name} {p p' : Nat} (hM : ∀ b i, M b = some i → M' b = some i)
    (hn : ∀ (k : Nat) (n : Name), nm[k]? = some n → nm'[k]? = some n) (hp : p ≤ p') : ∀ {ks : List Bk} {frs : List Fr}, Stk CB H M nm p ks frs → (∀ b o, H b = some o → b ∈ foots ks → H' b = some o) → Stk CB H' M' nm' p' ks frs
  | [], [], _, _ => trivial
  | [], _ :: _, h, _ => h.elim
  | _ :: _, [], h, _ => h.elim
  | k :: ks, fr :: frs, ⟨h1, h2⟩, kk =>
    ⟨h1.keep (fun b o e m => kk b o e (by rw [foots_cons]; exact List.mem_append_left _ m)) hM hn hp, Stk.keep hM hn hp h2 fun b o e m => kk b o e (by rw [foots_cons]; exact List.mem_append_right _ m)⟩
theorem BrOk.there {CB : Addr} {H : Hp} {M : PM} {nm : List Name} {p h : Nat} {k : Bk} {fr : Fr} (x : BrOk CB H M nm p h k fr) : ∀ y ∈ k.foot, H y ≠ none := fun y m => by
  rcases List.mem_cons.mp m with e | m
  · rw [e, x.at_]
    exact fun h => nomatch h
  rcases List.mem_cons.mp m with e | m
  · rw [e, x.arl]
    exact fun h => nomatch h
  · obtain ⟨r, hr, rfl⟩ := List.mem_map.mp m
    rw [x.rws r hr]
    exact fun h => nomatch h
theorem Stk.there {CB : Addr} {H : Hp} {M : PM} {nm : List Name} {p : Nat} : ∀ {ks : List Bk} {frs : List Fr}, Stk CB H M nm p ks frs → ∀ y ∈ foots ks, H y ≠ none
  | [], [], _, _, m => nomatch m
  | [], _ :: _, h, _, _ => h.elim
  | _ :: _, [], h, _, _ => h.elim
  | k :: ks, fr :: frs, ⟨h1, h2⟩, y, m => by
    rw [foots_cons] at m
    rcases List.mem_append.mp m with m | m
    · exact h1.there y m
    · exact Stk.there h2 y m
theorem Stk.len {CB : Addr} {H : Hp} {M : PM} {nm : List Name} {p : Nat} : ∀ {ks : List Bk} {frs : List Fr}, Stk CB H M nm p ks frs → ks.length = frs.length
  | [], [], _ => rfl
  | [], _ :: _, h => h.elim
  | _ :: _, [], h => h.elim
  | k :: ks, fr :: frs, ⟨_, h4⟩ => congrArg (· + 1) (Stk.len h4)
def Nms (K : PySem.W.Frag) (H : Hp) : List Addr → List (Nat × Name) → Prop
  | [], [] => True
  | t :: ts, n :: ns => SqT K H t [.int (n.1 : Nat), .int (n.2.length : Nat)] ∧ Nms K H ts ns
  | _, _ => False
theorem Nms.map {K : PySem.W.Frag} {H H' : Hp} (k : ∀ t xs, SqT K H t xs → SqT K H' t xs) : ∀ {ts : List Addr} {ns : List (Nat × Name)}, Nms K H ts ns → Nms K H' ts ns
  | [], [], _ => trivial
  | [], _ :: _, h => h.elim
  | _ :: _, [], h => h.elim
  | t :: ts, n :: ns, ⟨h1, h2⟩ => ⟨k _ _ h1, Nms.map k h2⟩
theorem Nms.len {K : PySem.W.Frag} {H : Hp} : ∀ {ts : List Addr} {ns : List (Nat × Name)}, Nms K H ts ns → ts.length = ns.length
  | [], [], _ => rfl
  | [], _ :: _, h => h.elim
  | _ :: _, [], h => h.elim
  | t :: ts, n :: ns, ⟨h1, h2⟩ => congrArg (· + 1) (Nms.len h2)
theorem Nms.snoc {K : PySem.W.Frag} {H : Hp} {t : Addr} {n : Nat × Name} (ht : SqT K H t [.int (n.1 : Nat), .int (n.2.length : Nat)]) : ∀ {ts : List Addr} {ns : List (Nat × Name)}, Nms K H ts ns → Nms K H (ts ++ [t]) (ns ++ [n])
  | [], [], _ => ⟨ht, trivial⟩
  | [], _ :: _, h => h.elim
  | _ :: _, [], h => h.elim
  | _ :: ts, _ :: ns, ⟨h1, h2⟩ => ⟨h1, Nms.snoc ht h2⟩
theorem Nms.get {K : PySem.W.Frag} {H : Hp} : ∀ {ts : List Addr} {ns : List (Nat × Name)} {i : Nat} {t : Addr}, Nms K H ts ns → ts[i]? = some t → ∃ n, ns[i]? = some n ∧ SqT K H t [.int (n.1 : Nat), .int (n.2.length : Nat)]
  | [], [], _, _, _, e => nomatch e
  | [], _ :: _, _, _, h, _ => h.elim
  | _ :: _, [], _, _, h, _ => h.elim
  | t :: ts, n :: ns, 0, u, ⟨h1, h2⟩, e => by
    cases e
    exact ⟨n, rfl, h1⟩
  | t :: ts, n :: ns, i + 1, u, ⟨h1, h2⟩, e => Nms.get (ts := ts) (ns := ns) (i := i) h2 e
def NmOk (g : List UInt8) (x : Nat × Name) : Prop := x.2 = (g.drop x.1).take x.2.length
def nmsOf (st : Mach.St) : List Name := st.ns.map (·.2)
/-- the reader at a, all of it -/
structure RS (K : PySem.W.Frag) (C CB : Addr) (cs : Cs) (H : Hp) (a dx ag an ab : Addr) (g : List UInt8) (ts : List Addr) (ks : List Bk) (M : PM) (F : Hp) (st : Mach.St) : Prop where
  rd : At K C H a dx ag st.p an ab g
  b : st.b = g.drop st.p
  nl : H an = some (.lst (ts.map V.ref))
  nm : Nms K H ts st.ns
  ok : ∀ x ∈ st.ns, NmOk g x
  bl : H ab = some (.lst ((ks.map Bk.b).reverse.map V.ref))
  sk : Stk CB H M (nmsOf st) st.p ks st.frs
  wd : Wd K cs M F (nmsOf st)
  fz : Same F H
  sq : SqL K F ag (gv g)
  n1 : a ≠ an ∧ a ≠ ab ∧ an ≠ ab
  n2 : Sep [a, an, ab] (foots ks)
  n3 : Foots ks
  fm : ∀ x ∈ [a, an, ab] ++ foots ks, F x = none
  nmd : (nmsOf st).Nodup
  nlen : st.ns.length ≤ 16
  flen : st.frs.length ≤ 41
  plen : st.frs.length ≤ st.p + 1
  g128 : g.length ≤ 128
theorem same_upd {F H : Hp} {x : Addr} {o : HO} (s : Same F H) (h : F x = none) : Same F (upd H x o) := Same.upd' s h
section
variable {K : PySem.W.Frag} {C CB CF : Addr} {cs : Cs} {H H1 : Hp} {a dx ag an ab : Addr} {g : List UInt8} {ts : List Addr} {ks : List Bk} {M M1 : PM} {F F1 : Hp} {st : Mach.St} {q : Nat} {Q : VK} {E : XK}
theorem sql_same {K : PySem.W.Frag} {H H' : Hp} {t : Addr} {xs : List V} (h : SqL K H t xs) (s : Same H H') : SqL K H' t xs := Same.seq s h
theorem Same.of_kept {a : Addr} (s : Same F H) (ha : F a = none) (k : Kept H H1 a) : Same F H1 := fun b o h => k b o (s b o h) (fun e => by rw [e, ha] at h; cases h)
theorem Same.of_keptL' {S : List Addr} (s : Same F H) (ha : ∀ x ∈ S, F x = none) (k : KeptL H H1 S) : Same F H1 := fun b o h => k b o (s b o h) (fun m => by rw [ha b m] at h; cases h)
theorem RS.fa (h : RS K C CB cs H a dx ag an ab g ts ks M F st) : F a = none := h.fm a (by simp)
theorem RS.fn (h : RS K C CB cs H a dx ag an ab g ts ks M F st) : F an = none := h.fm an (by simp)
theorem RS.fb (h : RS K C CB cs H a dx ag an ab g ts ks M F st) : F ab = none := h.fm ab (by simp)
theorem RS.go (h : RS K C CB cs H a dx ag an ab g ts ks M F st) (r : RAt C H1 a dx ag q an ab) (k : Kept H H1 a) (hq : q ≤ g.length) (hpq : st.p ≤ q) : RS K C CB cs H1 a dx ag an ab g ts ks M F { st with p := q, b := g.drop q } where
  rd := h.rd.next r k hq
  b := rfl
  nl := k _ _ h.nl h.n1.1.symm
  nm := Nms.map (fun t xs e => sqt_kept e h.rd.1 k) h.nm
  ok := h.ok
  bl := k _ _ h.bl h.n1.2.1.symm
  sk := Stk.keep (fun _ _ h => h) (fun _ _ h => h) hpq h.sk fun b o e m => k b o e fun x => h.n2 a (by simp) (by rw [← x]; exact m)
  wd := h.wd
  fz := Same.of_kept h.fz h.fa k
  sq := h.sq
  n1 := h.n1
  n2 := h.n2
  n3 := h.n3
  fm := h.fm
  nmd := h.nmd
  nlen := h.nlen
  flen := h.flen
  plen := Nat.le_trans h.plen (by show st.p + 1 ≤ q + 1; omega)
  g128 := h.g128
theorem sqt_same {K : PySem.W.Frag} {H H' : Hp} {t : Addr} {xs : List V} (h : SqT K H t xs) (s : Same H H') : SqT K H' t xs := sqt_same' h s
theorem RS.same (h : RS K C CB cs H a dx ag an ab g ts ks M F st) (s : Same H H1) : RS K C CB cs H1 a dx ag an ab g ts ks M F st where
  rd := h.rd.same s
  b := h.b
  nl := s _ _ h.nl
  nm := Nms.map (fun t xs e => sqt_same e s) h.nm
  ok := h.ok
  bl := s _ _ h.bl
  sk := Stk.keep (fun _ _ h => h) (fun _ _ h => h) (Nat.le_refl _) h.sk fun b o e m => s b o e
  wd := h.wd
  fz := Same.trans h.fz s
  sq := h.sq
  n1 := h.n1
  n2 := h.n2
  n3 := h.n3
  fm := h.fm
  nmd := h.nmd
  nlen := h.nlen
  flen := h.flen
  plen := h.plen
  g128 := h.g128
/-- parts have been made -/
theorem RS.grow (h : RS K C CB cs H a dx ag an ab g ts ks M F st) (hM : ∀ b i, M b = some i → M1 b = some i) (hw : Wd K cs M1 F1 (nmsOf st)) (sF : Same F F1) (sH : Same F1 H) (hf : ∀ x ∈ [a, an, ab] ++ foots ks, F1 x = none) : RS K C CB cs H a dx ag an ab g ts ks M1 F1 st where
  rd := h.rd
  b := h.b
  nl := h.nl
  nm := h.nm
  ok := h.ok
  bl := h.bl
  sk := Stk.keep hM (fun _ _ h => h) (Nat.le_refl _) h.sk fun b o e m => e
  wd := hw
  fz := sH
  sq := sql_same h.sq sF
  n1 := h.n1
  n2 := h.n2
  n3 := h.n3
  fm := hf
  nmd := h.nmd
  nlen := h.nlen
  flen := h.flen
  plen := h.plen
  g128 := h.g128
theorem sqt_keptL {K : PySem.W.Frag} {H H' : Hp} {t : Addr} {xs : List V} {S : List Addr} (h : SqT K H t xs) (hS : ∀ x ∈ S, isTup (H x) = false) (k : KeptL H H' S) : SqT K H' t xs := by
  rcases h with (h | ⟨o, h⟩) | h
  · exact .inl (.inl (k _ _ h fun m => by have := hS _ m; rw [h] at this; cases this))
  · exact .inl (.inr ⟨o, k _ _ h fun m => by have := hS _ m; rw [h] at this; cases this⟩)
  · exact .inr h
theorem BrOk.notup {nm : List Name} {p h : Nat} {k : Bk} {fr : Fr} (x : BrOk CB H M nm p h k fr) : ∀ y ∈ k.foot, isTup (H y) = false := fun y m => by
  rcases List.mem_cons.mp m with e | m
  · rw [e, x.at_]
    rfl
  rcases List.mem_cons.mp m with e | m
  · rw [e, x.arl]
    rfl
  · obtain ⟨r, hr, rfl⟩ := List.mem_map.mp m
    rw [x.rws r hr]
    rfl
theorem Stk.notup {nm : List Name} {p : Nat} : ∀ {ks : List Bk} {frs : List Fr}, Stk CB H M nm p ks frs → ∀ y ∈ foots ks, isTup (H y) = false
  | [], [], _, _, m => nomatch m
  | [], _ :: _, h, _, _ => h.elim
  | _ :: _, [], h, _, _ => h.elim
  | k :: ks, fr :: frs, ⟨h1, h2⟩, y, m => by
    rw [foots_cons] at m
    rcases List.mem_append.mp m with m | m
    · exact h1.notup y m
    · exact Stk.notup h2 y m
/-- what the reader may change -/
theorem RS.mut (h : RS K C CB cs H a dx ag an ab g ts ks M F st) : ∀ x ∈ [a, an, ab] ++ foots ks, H x ≠ none ∧ isTup (H x) = false := fun x m => by
  rcases List.mem_append.mp m with m | m
  · simp only [List.mem_cons, List.not_mem_nil, or_false] at m
    rcases m with e | e | e
    · rw [e, h.rd.1]; exact ⟨(fun h => nomatch h), rfl⟩
    · rw [e, h.nl]; exact ⟨(fun h => nomatch h), rfl⟩
    · rw [e, h.bl]; exact ⟨(fun h => nomatch h), rfl⟩
  · exact ⟨Stk.there h.sk x m, Stk.notup h.sk x m⟩
/-- the topmost bracket is changed, parts have been made -/
theorem RS.topG {k k1 : Bk} {fr fr' : Fr} {frs : List Fr} (h : RS K C CB cs H a dx ag an ab g ts (k :: ks) M F st) (hf : st.frs = fr :: frs) (hk : KeptL H H1 k.foot) (hb : k1.b = k.b)
    (ho : BrOk CB H1 M1 (nmsOf st) st.p frs.length k1 fr') (hnd : k1.foot.Nodup) (hin : ∀ x ∈ k1.foot, x ∈ k.foot ∨ H x = none)
    (hM : ∀ b i, M b = some i → M1 b = some i) (hw : Wd K cs M1 F1 (nmsOf st)) (sF : Same F F1) (sH : Same F1 H1) (hf1 : ∀ x ∈ [a, an, ab] ++ foots (k1 :: ks), F1 x = none) : RS K C CB cs H1 a dx ag an ab g ts (k1 :: ks) M1 F1 { st with frs := fr' :: frs } := by
  have sk := h.sk
  rw [hf] at sk
  obtain ⟨hbr, hs⟩ := sk
  obtain ⟨n31, n32, n33⟩ := h.n3
  have hfl := h.flen
  have hpl := h.plen
  rw [hf] at hfl hpl
  have hFk : ∀ x ∈ k.foot, F x = none := fun x m => h.fm x (List.mem_append_right _ (by rw [foots_cons]; exact List.mem_append_left _ m))
  have n2k : Sep [a, an, ab] k.foot := fun x m m2 => h.n2 x m (by rw [foots_cons]; exact List.mem_append_left _ m2)
  have n2s : Sep [a, an, ab] (foots ks) := fun x m m2 => h.n2 x m (by rw [foots_cons]; exact List.mem_append_right _ m2)
  have out : ∀ x, H x ≠ none → x ∉ k.foot → x ∉ k1.foot := fun x h1 h2 m => (hin x m).elim h2 h1
  have keep3 : ∀ x ∈ [a, an, ab], ∀ o, H x = some o → H1 x = some o := fun x m o e => hk x o e (n2k x m)
  exact {
    rd := ⟨keep3 a (by simp) _ h.rd.1, sql_same h.sq (Same.of_keptL' h.fz hFk hk), h.rd.2.2⟩
    b := h.b
    nl := keep3 an (by simp) _ h.nl
    nm := Nms.map (fun t xs e => sqt_keptL e hbr.notup hk) h.nm
    ok := h.ok
    bl := by
      show H1 ab = some (.lst (((k1.b :: ks.map Bk.b).reverse.map V.ref)))
      rw [hb]
      exact keep3 ab (by simp) _ h.bl
    sk := ⟨ho, Stk.keep hM (fun _ _ h => h) (Nat.le_refl _) hs fun b o e m => hk b o e fun m2 => n32 b m2 m⟩
    wd := hw
    fz := sH
    sq := sql_same h.sq sF
    n1 := h.n1
    n2 := fun x m m2 => by
      rw [foots_cons] at m2
      rcases List.mem_append.mp m2 with m2 | m2
      · refine out x ?_ (n2k x m) m2
        simp only [List.mem_cons, List.not_mem_nil, or_false] at m
        rcases m with e | e | e
        · rw [e, h.rd.1]
          exact fun h => nomatch h
        · rw [e, h.nl]
          exact fun h => nomatch h
        · rw [e, h.bl]
          exact fun h => nomatch h
      · exact n2s x m m2
    n3 := ⟨hnd, fun x m m2 => (hin x m).elim (fun m3 => n32 x m3 m2) (fun e => Stk.there hs x m2 e), n33⟩
    fm := hf1
    nmd := h.nmd
    nlen := h.nlen
    flen := hfl
    plen := hpl
    g128 := h.g128 }
/-- the topmost bracket is changed -/
theorem RS.top {k k1 : Bk} {fr fr' : Fr} {frs : List Fr} (h : RS K C CB cs H a dx ag an ab g ts (k :: ks) M F st) (hf : st.frs = fr :: frs) (hk : KeptL H H1 k.foot) (hb : k1.b = k.b)
    (ho : BrOk CB H1 M (nmsOf st) st.p frs.length k1 fr') (hnd : k1.foot.Nodup) (hin : ∀ x ∈ k1.foot, x ∈ k.foot ∨ H x = none) : RS K C CB cs H1 a dx ag an ab g ts (k1 :: ks) M F { st with frs := fr' :: frs } := by
  have hFk : ∀ x ∈ k.foot, F x = none := fun x m => h.fm x (List.mem_append_right _ (by rw [foots_cons]; exact List.mem_append_left _ m))
  refine h.topG hf hk hb ho hnd hin (fun _ _ h => h) h.wd (fun _ _ h => h) (Same.of_keptL' h.fz hFk hk) fun x m => ?_
  rcases List.mem_append.mp m with m | m
  · exact h.fm x (List.mem_append_left _ m)
  · rw [foots_cons] at m
    rcases List.mem_append.mp m with m | m
    · exact (hin x m).elim (hFk x) fun e => none_same h.fz e
    · exact h.fm x (List.mem_append_right _ (by rw [foots_cons]; exact List.mem_append_right _ m))
theorem RowsFit.unsnoc {D : Nat} : ∀ {rs : Rws} {pss : List (List PatWords.Pat)} {ps : List PatWords.Pat}, RowsFit M D rs (pss ++ [ps]) → ∃ rs' al bs, rs = rs' ++ [(al, bs)] ∧ RowsFit M D rs' pss ∧ AllFit M D bs ps
  | [], [], _, h => h.elim
  | [], _ :: _, _, h => h.elim
  | [(al, bs)], [], _, ⟨h1, _⟩ => ⟨[], al, bs, rfl, trivial, h1⟩
  | _ :: _ :: _, [], _, ⟨_, h2⟩ => h2.elim
  | r :: rs, q :: pss, p, ⟨h1, h2⟩ => by
    obtain ⟨rs', al, bs, e, h3, h4⟩ := RowsFit.unsnoc h2
    exact ⟨r :: rs', al, bs, by rw [e]; rfl, ⟨h1, h3⟩, h4⟩
theorem RowsFit.snoc {D : Nat} {al : Addr} {bs : List Addr} {ps : List PatWords.Pat} (h : AllFit M D bs ps) : ∀ {rs : Rws} {pss : List (List PatWords.Pat)}, RowsFit M D rs pss → RowsFit M D (rs ++ [(al, bs)]) (pss ++ [ps])
  | [], [], _ => ⟨h, trivial⟩
  | [], _ :: _, h => h.elim
  | _ :: _, [], h => h.elim
  | _ :: _, _ :: _, ⟨h1, h2⟩ => ⟨h1, RowsFit.snoc h h2⟩
/-- the row that is being read -/
theorem BrOk.cur {nm : List Name} {p h : Nat} {k : Bk} {fr : Fr} (x : BrOk CB H M nm p h k fr) : ∃ rs al bs rss, k.rows = rs ++ [(al, bs)] ∧ RowsFit M (3 * (p - h) / 2) rs rss ∧ AllFit M (3 * (p - h) / 2) bs fr.items ∧ fr.rows = rss.map Mach.seqs ∧ H k.ar = some (.lst ((rs.map (·.1)).map V.ref ++ [V.ref al])) ∧ H al = some (.lst (bs.map V.ref)) ∧ bs.length ≤ p := by
  obtain ⟨rss, h1, h2⟩ := x.fit
  obtain ⟨rs, al, bs, e, h3, h4⟩ := h1.unsnoc
  refine ⟨rs, al, bs, rss, e, h3, h4, h2, ?_, ?_, ?_⟩
  · have := x.arl
    rw [e, List.map_append] at this
    rw [List.map_map]
    exact this
  · exact x.rws (al, bs) (by rw [e]; simp)
  · exact x.ilen (al, bs) (by rw [e]; simp)
/-- the topmost bracket by its place in the list -/
theorem RS.lastB {k : Bk} (h : RS K C CB cs H a dx ag an ab g ts (k :: ks) M F st) : SqL K H ab (((ks.map Bk.b).reverse.map V.ref) ++ [V.ref k.b]) := by
  refine SqL.of ?_
  have e := h.bl
  rw [List.map_cons, List.reverse_cons, List.map_append] at e
  exact e
theorem sqt_upd {K : PySem.W.Frag} {H : Hp} {l t : Addr} {xs ys zs : List V} (h : SqT K H t xs) (e : H l = some (.lst ys)) : SqT K (upd H l (.lst zs)) t xs := by
  rcases h with (h | ⟨o, h⟩) | h
  · exact .inl (.inl ((upd_ne (ne_of h e (by intro z; cases z))).trans h))
  · exact .inl (.inr ⟨o, (upd_ne (ne_of h e (by intro z; cases z))).trans h⟩)
  · exact .inr h
theorem sql_upd {K : PySem.W.Frag} {H : Hp} {l t : Addr} {xs zs : List V} (h : SqL K H t xs) (n : t ≠ l) : SqL K (upd H l (.lst zs)) t xs := by
  rcases h with (h | ⟨o, h⟩) | h
  · exact .inl (.inl ((upd_ne n).trans h))
  · exact .inl (.inr ⟨o, (upd_ne n).trans h⟩)
  · exact .inr h
/-- the list of brackets is written anew -/
theorem RS.pile {ks' : List Bk} {frs' : List Fr} (h : RS K C CB cs H a dx ag an ab g ts ks M F st) (hs : Stk CB H M (nmsOf st) st.p ks' frs') (hl : frs'.length ≤ 41) (hl2 : frs'.length ≤ st.p + 1) (hn2 : Sep [a, an, ab] (foots ks')) (hn3 : Foots ks') (hf : ∀ x ∈ foots ks', F x = none) :
    RS K C CB cs (upd H ab (.lst ((ks'.map Bk.b).reverse.map V.ref))) a dx ag an ab g ts ks' M F { st with frs := frs' } where
  rd := ⟨(upd_ne h.n1.2.1).trans h.rd.1, sql_same h.sq (same_upd h.fz h.fb), h.rd.2.2⟩
  b := h.b
  nl := (upd_ne h.n1.2.2).trans h.nl
  nm := Nms.map (fun t xs e => sqt_upd e h.bl) h.nm
  ok := h.ok
  bl := upd_same
  sk := Stk.keep (fun _ _ h => h) (fun _ _ h => h) (Nat.le_refl _) hs fun b o e m => (upd_ne (fun x => hn2 ab (by simp) (by rw [← x]; exact m))).trans e
  wd := h.wd
  fz := same_upd h.fz h.fb
  sq := h.sq
  n1 := h.n1
  n2 := hn2
  n3 := hn3
  fm := fun x m => by
    rcases List.mem_append.mp m with m | m
    · exact h.fm x (List.mem_append_left _ m)
    · exact hf x m
  nmd := h.nmd
  nlen := h.nlen
  flen := hl
  plen := hl2
  g128 := h.g128
/-- how a step ends -/
def StepRet (K : PySem.W.Frag) (C CB CF : Addr) (cs : Cs) (a dx ag an ab : Addr) (g : List UInt8) (F : Hp) (Q : VK) (E : XK) (res : Except Fault Mach.St) : Prop := match res with
  | .error e => Out CF e E
  | .ok st' => ∀ H' ts' ks' M' F', RS K C CB cs H' a dx ag an ab g ts' ks' M' F' st' → Same F F' → Q .non H'
end
end Pat
end

section
namespace Pat
open PySem PySem.Spec PyProof.Rows L2
open PySem.FaultX (FaultTxt)
open PatUtf (Fault)
open PatWords (Pat repP timesP Name)
open Mach (Fr)
open Ways (WF FwdW FitsW FitAll oneWF seqsWF altsWF repWF capWF)
theorem timesP_le {p n q : Nat} {b r : List UInt8} (h : timesP p b = .ok (n, r, q)) : n ≤ 20 := by
  unfold timesP at h
  cases b with
  | nil => cases h
  | cons c b =>
    dsimp only at h
    split at h
    · cases h
    split at h
    · cases b with
      | nil => cases h
      | cons d s => cases h; omega
    · split at h
      · cases h
      split at h
      · cases h
      · rename_i hn
        cases h
        exact Nat.not_lt.mp hn
/-- a repetition of what: only the sizes are of it -/
theorem rep_gen {a : Pat} {p : Nat} {c : UInt8} {r : List UInt8} (hc : Mach.isRep c = true) :
    match repP .nothing p (c :: r) with
    | .error e => repP a p (c :: r) = .error e
    | .ok (x, s, q) => ∃ m n, x = .rep .nothing m n ∧ repP a p (c :: r) = .ok (.rep a m n, s, q) ∧ m ≤ 20 ∧ ∀ k, n = some k → m ≤ k ∧ k ≤ 20 := by
  by_cases h1 : c = 42
  · subst h1
    exact ⟨0, none, rfl, rfl, by decide, fun k e => nomatch e⟩
  by_cases h2 : c = 43
  · subst h2
    exact ⟨1, none, rfl, rfl, by decide, fun k e => nomatch e⟩
  by_cases h3 : c = 63
  · subst h3
    exact ⟨0, some 1, rfl, rfl, by decide, fun k e => by cases e; decide⟩
  have h4 : c = 123 := by
    simp only [Mach.isRep, Bool.or_eq_true, beq_iff_eq] at hc
    rcases hc with ((h | h) | h) | h
    · exact absurd h h1
    · exact absurd h h2
    · exact absurd h h3
    · exact h
  subst h4
  unfold repP
  simp only [h1, h2, h3, if_false, if_true]
  cases e1 : timesP (p + 1) r with
  | error e => rfl
  | ok y =>
    obtain ⟨m, s, q⟩ := y
    have hm := timesP_le e1
    simp only [bind, Except.bind]
    cases s with
    | nil => rfl
    | cons d u =>
      dsimp only
      by_cases c1 : d = 125
      · rw [if_pos c1, if_pos c1]
        exact ⟨m, some m, rfl, rfl, hm, fun k e => by cases e; exact ⟨Nat.le_refl _, hm⟩⟩
      · rw [if_neg c1, if_neg c1]
        by_cases c2 : d ≠ 44
        · rw [if_pos c2, if_pos c2]
        · rw [if_neg c2, if_neg c2]
          cases u with
          | nil => rfl
          | cons e v =>
            dsimp only
            by_cases c3 : e = 125
            · rw [if_pos c3, if_pos c3]
              exact ⟨m, none, rfl, rfl, hm, fun k e => nomatch e⟩
            · rw [if_neg c3, if_neg c3]
              cases e2 : timesP (q + 1) (e :: v) with
              | error e => rfl
              | ok y2 =>
                obtain ⟨n, x, k⟩ := y2
                have hn := timesP_le e2
                dsimp only
                by_cases c4 : n < m
                · rw [if_pos c4, if_pos c4]
                · rw [if_neg c4, if_neg c4]
                  cases x with
                  | nil => rfl
                  | cons y z =>
                    dsimp only
                    by_cases c5 : y = 125
                    · rw [if_pos c5, if_pos c5]
                      exact ⟨m, some n, rfl, rfl, hm, fun k e => by cases e; exact ⟨Nat.not_lt.mp c4, hn⟩⟩
                    · rw [if_neg c5, if_neg c5]
theorem rep_size (a : Pat) (m : Nat) (n : Option Nat) : (Pat.rep a m n).size = timesN m n * a.size := by
  cases n <;> rfl
theorem repP_drop {g : List UInt8} {p q : Nat} {a x : Pat} {s : List UInt8} (h : repP a p (g.drop p) = .ok (x, s, q)) (hp : p ≤ g.length) : s = g.drop q ∧ q ≤ g.length := by
  unfold repP at h
  cases hc : g[p]? with
  | none => rw [drop_none hc] at h; cases h; exact ⟨(drop_none hc).symm, hp⟩
  | some c =>
    have hlt := lt_of_some hc
    rw [drop_cons hc] at h
    dsimp only at h
    split at h
    · cases h; exact ⟨rfl, by omega⟩
    split at h
    · cases h; exact ⟨rfl, by omega⟩
    split at h
    · cases h; exact ⟨rfl, by omega⟩
    split at h
    · cases e1 : timesP (p + 1) (g.drop (p + 1)) with
      | error e => rw [e1] at h; cases h
      | ok y =>
        obtain ⟨m, s1, q1⟩ := y
        obtain ⟨hs, hpq, hql⟩ := timesP_drop e1
        subst hs
        rw [e1] at h
        simp only [bind, Except.bind] at h
        have hd : g[q1]? = some g[q1] := List.getElem?_eq_getElem hql
        rw [drop_cons hd] at h
        dsimp only at h
        split at h
        · cases h; exact ⟨rfl, by omega⟩
        split at h
        · cases h
        cases he : g[q1 + 1]? with
        | none => rw [drop_none he] at h; cases h
        | some e =>
          have hle := lt_of_some he
          rw [drop_cons he] at h
          dsimp only at h
          split at h
          · cases h; exact ⟨rfl, by omega⟩
          rw [← drop_cons he] at h
          cases e2 : timesP (q1 + 1) (g.drop (q1 + 1)) with
          | error e => rw [e2] at h; cases h
          | ok y2 =>
            obtain ⟨n, x2, k⟩ := y2
            obtain ⟨hx, hqk, hkl⟩ := timesP_drop e2
            subst hx
            rw [e2] at h
            dsimp only at h
            split at h
            · cases h
            have hy : g[k]? = some g[k] := List.getElem?_eq_getElem hkl
            rw [drop_cons hy] at h
            dsimp only at h
            split at h
            · cases h; exact ⟨rfl, by omega⟩
            · cases h
    · cases h
      exact ⟨(drop_cons hc).symm, hp⟩
def repStep (g : List UInt8) (st : Mach.St) (fr : Fr) (frs : List Fr) : Except Fault Mach.St := if fr.last = true then (match repP (fr.items.getLast?.getD .nothing) st.p (g.drop st.p) with
    | .error e => .error e
    | .ok (x, s, q) => .ok ⟨q, s, st.ns, fr.swap x :: frs⟩) else .error ⟨2, st.p⟩
theorem repP_up {g : List UInt8} {p q : Nat} {c : UInt8} {x y : Pat} {s : List UInt8} (hc : g[p]? = some c) (hr : Mach.isRep c = true) (h : repP y p (g.drop p) = .ok (x, s, q)) : p < q := by
  have hlt := lt_of_some hc
  unfold repP at h
  rw [drop_cons hc] at h
  dsimp only at h
  split at h
  · cases h; omega
  split at h
  · cases h; omega
  split at h
  · cases h; omega
  split at h
  · cases e1 : timesP (p + 1) (g.drop (p + 1)) with
    | error e => rw [e1] at h; cases h
    | ok y =>
      obtain ⟨m, s1, q1⟩ := y
      obtain ⟨hs, hpq, hql⟩ := timesP_drop e1
      subst hs
      rw [e1] at h
      simp only [bind, Except.bind] at h
      have hd : g[q1]? = some g[q1] := List.getElem?_eq_getElem hql
      rw [drop_cons hd] at h
      dsimp only at h
      split at h
      · cases h; omega
      split at h
      · cases h
      cases he : g[q1 + 1]? with
      | none => rw [drop_none he] at h; cases h
      | some e =>
        have hle := lt_of_some he
        rw [drop_cons he] at h
        dsimp only at h
        split at h
        · cases h; omega
        rw [← drop_cons he] at h
        cases e2 : timesP (q1 + 1) (g.drop (q1 + 1)) with
        | error e => rw [e2] at h; cases h
        | ok y2 =>
          obtain ⟨n, x2, k⟩ := y2
          obtain ⟨hx, hqk, hkl⟩ := timesP_drop e2
          subst hx
          rw [e2] at h
          dsimp only at h
          split at h
          · cases h
          have hy : g[k]? = some g[k] := List.getElem?_eq_getElem hkl
          rw [drop_cons hy] at h
          dsimp only at h
          split at h
          · cases h; omega
          · cases h
  · rename_i n1 n2 n3 n4
    simp only [Mach.isRep, Bool.or_eq_true, beq_iff_eq] at hr
    rcases hr with ((h | h) | h) | h
    · exact absurd h n1
    · exact absurd h n2
    · exact absurd h n3
    · exact absurd h n4
section
variable {P : Program} {w : World} {K : PySem.W.Frag} {mg : Str → Option Value} {base : Heap} {C CB CF fI : Addr} {cs : Cs} {H : Hp} {a dx ag an ab : Addr} {g : List UInt8} {ts : List Addr} {ks : List Bk} {M : PM} {F0 : Hp} {st : Mach.St} {Q : VK} {E : XK}
@[irreducible] def spRepS (K : PySem.W.Frag) (C CB CF : Addr) (cs : Cs) : Sp := fun vs H Q E => ∃ (a dx ag an ab : Addr) (g : List UInt8) (ts : List Addr) (ks : List Bk) (M : PM) (F : Hp) (st : Mach.St) (fr : Fr) (frs : List Fr) (c : UInt8), vs = [.ref a] ∧ RS K C CB cs H a dx ag an ab g ts ks M F st ∧ st.frs = fr :: frs ∧
  g[st.p]? = some c ∧ Mach.isRep c = true ∧ StepRet K C CB CF cs a dx ag an ab g F Q E (repStep g st fr frs)
theorem repS_use {fr : Fr} {frs : List Fr} {c : UInt8} (h : RS K C CB cs H a dx ag an ab g ts ks M F0 st) (hf : st.frs = fr :: frs) (hc : g[st.p]? = some c) (hr : Mach.isRep c = true) (r : StepRet K C CB CF cs a dx ag an ab g F0 Q E (repStep g st fr frs)) : spRepS K C CB CF cs [.ref a] H Q E := by
  unfold spRepS
  exact ⟨a, dx, ag, an, ab, g, ts, ks, M, F0, st, fr, frs, c, rfl, h, hf, hc, hr, r⟩
theorem brep_use {b dxb c ar al : Addr} {as : List Addr} {its : List V} {z : Str} {num : V} {n : Int} {s m : Nat} {mo : Option Nat} (hm : m ≤ 20) (hmo : ∀ k, mo = some k → k ≤ 20) (hb : BAt CB H b dxb z num ar n (some (s : Nat))) (har : H ar = some (.lst (as.map V.ref ++ [V.ref al]))) (hal : H al = some (.lst (its ++ [V.ref c]))) (hlen : its.length ≤ 1000) (hra : ar ≠ al)
    (r : ∀ H' b' dx' rg ra, H b' = none → H' b' = some (.ins cs.p dx' (nF rg ra (.rep c m mo))) → BAt CB H' b dxb z num ar (n + (((timesN m mo : Nat) : Int) - 1) * (s : Nat)) none → H' al = some (.lst (its ++ [V.ref b'])) → KeptL H H' [b, al] → Q .non H') : spBRep CB cs [.ref b, .int (m : Nat), optN mo] H Q E := by
  unfold spBRep
  exact ⟨b, dxb, c, ar, al, as, its, z, num, n, s, m, mo, rfl, hm, hmo, hb, har, hal, hlen, hra, r⟩
/-- a changed bracket's lists -/
theorem BrOk.lists {nm : List Name} {p h : Nat} {k : Bk} {fr : Fr} {H1 : Hp} {rs : Rws} {al : Addr} {bs bs' : List Addr} (x : BrOk CB H M nm p h k fr) (e : k.rows = rs ++ [(al, bs)]) (hn : k.foot.Nodup) (hk : KeptL H H1 [k.b, al]) (hal : H1 al = some (.lst (bs'.map V.ref))) :
    H1 k.ar = some (.lst ((rs ++ [(al, bs')]).map fun r => V.ref r.1)) ∧ RowsAt H1 (rs ++ [(al, bs')]) := by
  have hf : k.foot = k.b :: k.ar :: (rs.map (·.1) ++ [al]) := by
    unfold Bk.foot
    rw [e, List.map_append]
    rfl
  rw [hf] at hn
  obtain ⟨n1, n2⟩ := List.nodup_cons.mp hn
  obtain ⟨n3, n4⟩ := List.nodup_cons.mp n2
  have hab : k.ar ≠ k.b := fun e => n1 (by rw [e]; simp)
  have haa : k.ar ≠ al := fun e => n3 (by rw [e]; simp)
  constructor
  · have h1 := hk _ _ x.arl (by simp [hab, haa])
    rw [h1, e, List.map_append, List.map_append]
    rfl
  · intro r m
    rcases List.mem_append.mp m with m | m
    · have h1 := x.rws r (by rw [e]; exact List.mem_append_left _ m)
      refine hk _ _ h1 ?_
      have hm : r.1 ∈ rs.map (·.1) := List.mem_map.mpr ⟨r, m, rfl⟩
      have hb : r.1 ≠ k.b := fun e => n1 (by rw [← e]; simp [hm])
      have hl : r.1 ≠ al := fun e2 => by
        have := (List.nodup_append.mp n4).2.2
        exact this r.1 hm al (by simp) e2
      simp [hb, hl]
    · rw [List.mem_singleton.mp m]
      exact hal
theorem scRepS : FnScope ["self", "times"] ["self"] (defScope (sR 14)) := ⟨rfl, rfl, rfl, by decide +kernel, rfl, by decide +kernel, by decide +kernel⟩
theorem ok_repS {f : Addr} {fd : FuncData} (F : Fun K "take_repetition" "Reader.take_repetition" (sR 14) f fd) (T : Txt K mg C CF fI) (TB : TxB K CB)
    (M2 : MOk P w K mg base (L2N.CX P w) C 6 "take_times" ["self"] (spTimes K C CF)) (M4 : MOk P w K mg base CX0 CB 4 "repeat_atom" ["self", "least", "most"] (spBRep CB cs)) :
    FnOk P w K mg base (L2N.CX P w) 7 f fd ["self"] (spRepS K C CB CF cs) := by
  obtain ⟨f2, fd2, m2, b2, G2⟩ := M2
  obtain ⟨f4, fd4, m4, b4, G4⟩ := M4
  refine F.okN scRepS (fun vs H Q E h => ?_) (fun cdv A outer s H vs Q E hr h => ⟨_, pss_cons (ps_if (pt_cmpR op_isN (pe_fld (pe_ix ix_list (pe_fld (pv 0) rfl) (pe_un un_neg pe_int) (fun _ _ => rfl)) rfl) pe_non (nomark _))
        (pss_one (ps_raiseFault rfl T.ft hr (L2N.takes_of rfl rfl rfl rfl) (by exact (pa_cons (pe_gi T.k2) (pa_cons (pe_fld (pv 0) rfl) pa_nil))))) pss_nil)
      (pss_cons (ps_set (i := 1) scRepS.nd rfl (Or.inl rfl) (pe_meth0 (pv 0) T.cl m2 G2 hr b2 .nil (L2N.passes_call (L2N.takes_of rfl rfl rfl rfl) (fun _ _ _ _ h => h))))
      (pss_one (ps_expr (pe_meth (pe_ix ix_list (pe_fld (pv 0) rfl) (pe_un un_neg pe_int) (fun _ _ => rfl)) TB.cl m4 G4 (hr.mono (by decide)) b4 .nil pass0 (by exact (pa_cons (pe_ix ix_tup (pv 1) pe_int (fun _ _ => rfl)) (pa_cons (pe_ix ix_tup (pv 1) pe_int (fun _ _ => rfl)) pa_nil))))))), ?_⟩)
  · unfold spRepS at h
    obtain ⟨_, _, _, _, _, _, _, _, _, _, _, _, _, _, rfl, _⟩ := h
    rfl
  unfold spRepS at h
  obtain ⟨a, dx, ag, an, ab, g, ts, ks, M, F0, st, fr, frs, c, rfl, h, hf, hc, hrep, hQ⟩ := h
  have hlt := lt_of_some hc
  have sk := h.sk
  rw [hf] at sk
  cases ks with
  | nil => exact sk.elim
  | cons k ks =>
    obtain ⟨hbr, hs⟩ := sk
    refine ⟨_, rfl, a, C, dx, _, _, rfl, h.rd.1, T.cl, T.nB, rF_brackets, _, rfl, ab, _, _, _, rfl, rfl, h.lastB, atI_last _ _, k.b, CB, k.dx, _, _, rfl, hbr.at_, TB.cl, TB.nL, bF_last, rfl, _, rfl, ?_⟩
    unfold repStep at hQ
    by_cases hl : fr.last = true
    · rw [if_pos hl] at hQ
      have efl : flast fr = some (((fr.items.getLast?.getD .nothing).size : Nat) : Int) := if_pos hl
      rw [efl]
      refine if_false_of rfl ?_
      -- the last item
      obtain ⟨init, x0, hit⟩ : ∃ init x0, fr.items = init ++ [x0] := ⟨fr.items.dropLast, _, (List.dropLast_concat_getLast (hbr.last hl)).symm⟩
      have hx0 : fr.items.getLast?.getD .nothing = x0 := by rw [hit]; simp
      rw [hx0] at hQ efl
      have hrg := rep_gen (a := x0) (p := st.p) (r := g.drop (st.p + 1)) hrep
      rw [← drop_cons hc] at hrg
      refine ⟨_, rfl, a, dx, _, rfl, h.rd.1, rF_no (by decide +kernel), ?_⟩
      refine times_use h.rd hc hrep ?_
      unfold repE
      cases e : repP .nothing st.p (g.drop st.p) with
      | error x =>
        rw [e] at hrg
        dsimp only at hrg
        rw [hrg] at hQ
        exact hQ
      | ok y =>
        obtain ⟨x, s, q⟩ := y
        rw [e] at hrg
        obtain ⟨m, n, rfl, e2, h20, hn20⟩ := hrg
        obtain ⟨hs2, hql⟩ := repP_drop e (Nat.le_of_lt hlt)
        have hpq := repP_up hc hrep e
        rw [hs2] at e2
        rw [e2] at hQ
        intro H3 t r3 k3 ht
        have h3 := h.go r3 k3 hql (Nat.le_of_lt hpq)
        have sk3 := h3.sk
        have hf3 : ({ st with p := q, b := g.drop q } : Mach.St).frs = fr :: frs := hf
        rw [hf3] at sk3
        obtain ⟨hbr3, hs3⟩ := sk3
        obtain ⟨rs, al, bs, rss, er, hfr, hfi, hrows, har, hal, hbl⟩ := hbr3.cur
        -- by what was read before
        obtain ⟨rs', al', bs', rss', er', hfr', hfi', hrows', _⟩ := hbr.cur
        have err : rs' = rs ∧ al' = al ∧ bs' = bs := by
          rw [er] at er'
          have := List.append_inj' er' rfl
          have h2 := List.cons.inj this.2
          injection h2.1 with h3 h4
          exact ⟨this.1.symm, h3.symm, h4.symm⟩
        obtain ⟨rfl, rfl, rfl⟩ := err
        rw [hit] at hfi'
        obtain ⟨bs0, c0, ebs, hfi0, hfc⟩ := hfi'.unsnoc
        have hnd := h3.n3.1
        have hra : k.ar ≠ al' := fun e => by
          have hf : k.foot = k.b :: k.ar :: (rs'.map (·.1) ++ [al']) := by
            unfold Bk.foot
            rw [er, List.map_append]
            rfl
          rw [hf] at hnd
          have := (List.nodup_cons.mp (List.nodup_cons.mp hnd).2).1
          exact this (by rw [e]; simp)
        rw [ebs, List.map_append] at hal
        have hb3 := hbr3.at_
        rw [efl] at hb3
        refine ⟨_, rfl, a, C, dx, _, _, rfl, h3.rd.1, T.cl, T.nB, rF_brackets, _, rfl, ab, _, _, _, rfl, rfl, h3.lastB, atI_last _ _, k.b, k.dx, _, rfl, hb3, bF_no (by decide +kernel), ?_⟩
        refine ⟨_, rfl, t, _, _, _, rfl, rfl, ht, atI_nat (j := 0) rfl, ?_⟩
        refine ⟨_, rfl, t, _, _, _, rfl, rfl, ht, atI_nat (j := 1) rfl, ?_⟩
        have hg1000 := h.g128
        have hbl : bs'.length ≤ q := hbl
        refine brep_use h20 (fun k e => (hn20 k e).2) hb3 har hal (by rw [List.length_map]; rw [ebs, List.length_append] at hbl; omega) hra ?_
        intro H4 b' dx' rg ra hb'n hb' hb4 hal4 k4
        have hbm : k.b ∈ k.foot := List.mem_cons_self ..
        have hlm : al' ∈ k.foot := by
          unfold Bk.foot
          rw [er]
          simp
        have k4f : KeptL H3 H4 k.foot := fun y o e n => k4 y o e fun m => n (by
          rcases List.mem_cons.mp m with m | m
          · rw [m]; exact hbm
          · rw [List.mem_singleton.mp m]; exact hlm)
        obtain ⟨ic, hi1, hi2, hi3⟩ := hfc
        have hh : frs.length ≤ st.p := by have := h.plen; rw [hf, List.length_cons] at this; omega
        have sF4 : Same F0 H4 := Same.of_keptL' h3.fz (fun y m => h3.fm y (List.mem_append_right _ (by rw [foots_cons]; exact List.mem_append_left _ m))) k4f
        have hFb' : F0 b' = none := none_same h3.fz hb'n
        -- the new part
        have made : ∃ (M1 : PM), (∀ b i, M b = some i → M1 b = some i) ∧ Wd K cs M1 (frz F0 H4 [b']) (nmsOf st) ∧ Fits M1 b' (.rep x0 m n) (3 * (st.p - frs.length) / 2 + 1) := by
          have hst : Stat (nmsOf st) M ⟨dx', .rep c0 m n, ic.d + 1, repWF ic.wf m n⟩ := ⟨h20, hn20, ic, hi1, Nat.lt_succ_self _, rfl⟩
          refine ⟨_, h.wd.le hFb', h.wd.grow sF4 hFb' (S := [b']) (dx := dx') (rg := rg) (ra := ra) (kd := .rep c0 m n) (d := ic.d + 1) (wf := repWF ic.wf m n) hb' (by simp) trivial hst (Ways.fwd_rep (h.wd.fwd _ _ hi1)), _, addM_same, Nat.succ_le_succ hi2, ?_⟩
          exact Ways.fits_rep hi3
        obtain ⟨M1, hM1, hW1, hfit1⟩ := made
        have hal4' : H4 al' = some (.lst ((bs0 ++ [b']).map V.ref)) := by rw [hal4, List.map_append]; rfl
        obtain ⟨hl1, hl2⟩ := hbr3.lists er hnd k4 hal4'
        have esz : ((fsize fr : Nat) : Int) + (((timesN m n : Nat) : Int) - 1) * ((x0.size : Nat) : Int) = ((fsize (fr.swap (.rep x0 m n)) : Nat) : Int) := by
          unfold fsize Mach.Fr.swap
          simp only [hit, List.dropLast_concat, List.map_append, List.sum_append, List.map_singleton, List.sum_singleton, rep_size]
          rw [Int.sub_mul, Int.one_mul]
          push_cast
          omega
        rw [esz] at hb4
        have esw : (fr.swap (.rep x0 m n)).items = init ++ [.rep x0 m n] := by
          show fr.items.dropLast ++ _ = _
          rw [hit, List.dropLast_concat]
        have hlen0 : bs0.length + 1 ≤ q := by rw [ebs, List.length_append] at hbl; exact hbl
        have hD : 3 * (st.p - frs.length) / 2 + 1 ≤ 3 * (q - frs.length) / 2 := by omega
        have hD0 : 3 * (st.p - frs.length) / 2 ≤ 3 * (q - frs.length) / 2 := by omega
        have hbrN : BrOk CB H4 M1 (nmsOf st) q frs.length { k with rows := rs' ++ [(al', bs0 ++ [b'])] } (fr.swap (.rep x0 m n)) := {
          at_ := hb4
          arl := hl1
          rws := hl2
          fit := ⟨rss', by
            rw [esw]
            exact RowsFit.snoc (AllFit.snoc (hfit1.mono (fun _ _ h => h) hD) (hfi0.mono hM1 hD0)) (hfr'.mono hM1 hD0), hrows'⟩
          num := hbr3.num
          last := fun e => nomatch e
          clo := hbr3.clo
          out := hbr3.out
          rlen := by
            have := hbr3.rlen
            rw [er] at this
            show (rs' ++ [(al', bs0 ++ [b'])]).length ≤ q + 1
            rw [List.length_append] at this ⊢
            exact this
          ilen := fun r m => by
            rcases List.mem_append.mp m with m | m
            · exact hbr3.ilen r (by rw [er]; exact List.mem_append_left _ m)
            · rw [List.mem_singleton.mp m]
              show (bs0 ++ [b']).length ≤ q
              rw [List.length_append]
              exact hlen0 }
        have hfoot : ({ k with rows := rs' ++ [(al', bs0 ++ [b'])] } : Bk).foot = k.foot := by
          unfold Bk.foot
          rw [er]
          simp
        refine hQ H4 ts _ M1 (frz F0 H4 [b']) (RS.topG h3 hf3 (k1 := { k with rows := rs' ++ [(al', bs0 ++ [b'])] }) k4f rfl hbrN (by rw [hfoot]; exact hnd) (fun x m => .inl (by rw [hfoot] at m; exact m)) hM1 hW1 same_frz (frz_same sF4) ?_) same_frz
        intro x m
        have m' : x ∈ [a, an, ab] ++ foots (k :: ks) := by
          rw [foots_cons, hfoot] at m
          exact m
        obtain ⟨hxH, hxt⟩ := h3.mut x m'
        refine frz_out (h3.fm x m') (fun m2 => hxH (by rw [List.mem_singleton.mp m2]; exact hb'n)) ?_
        by_cases mk : x ∈ k.foot
        · exact hbrN.notup x (by rw [hfoot]; exact mk)
        · cases e : H3 x with
          | none => exact absurd e hxH
          | some o =>
            rw [k4f _ _ e mk, ← e]
            exact hxt
    · rw [if_neg hl] at hQ
      have efl : flast fr = none := if_neg hl
      rw [efl]
      have hQ' : Out CF ⟨2, st.p⟩ E := hQ
      exact if_true_of rfl ⟨_, rfl, a, C, dx, _, _, rfl, h.rd.1, T.cl, T.nP, rF_place, _, _, rfl, fun d hd => hQ' d _ upd_same⟩
end
end Pat
end

section
namespace Pat
open PySem PySem.Spec PyProof.Rows L2
open PySem.FaultX (FaultTxt)
open PatUtf (Fault)
open PatWords (Pat repP timesP Name)
open Mach (Fr)
open Ways (WF FwdW FitsW FitAll oneWF seqsWF altsWF repWF capWF)
def closeStep (st : Mach.St) (g : List UInt8) (fr : Fr) (frs : List Fr) (c : UInt8) : Except Fault Mach.St := if fr.close = [c] then (match frs with
    | [] => .error ⟨2, st.p⟩
    | gg :: gs => .ok ⟨st.p + 1, g.drop (st.p + 1), st.ns, gg.push fr.atom :: gs⟩) else .error ⟨2, st.p⟩
theorem cds_close (fr : Fr) : cds (fclose fr) = fr.close.map (·.toNat) := by
  unfold cds fclose
  rfl
theorem close_has {fr : Fr} {c : UInt8} (h : fr.close.length ≤ 1) : (cds (fclose fr)).contains c.toNat = decide (fr.close = [c]) := by
  rw [cds_close]
  cases e : fr.close with
  | nil => rfl
  | cons d l =>
    cases l with
    | nil =>
      by_cases hd : d = c
      · subst hd
        simp
      · have h2 : ¬ d.toNat = c.toNat := fun x => hd (UInt8.toNat_inj.mp x)
        have h3 : ¬ c.toNat = d.toNat := fun x => h2 x.symm
        simp [hd, h3]
    | cons x l =>
      rw [e] at h
      simp at h
theorem atom_of (fr : Fr) (rss : List (List Pat)) (h : fr.rows = rss.map Mach.seqs) : fr.atom = atomOf (Mach.alts ((rss ++ [fr.items]).map Mach.seqs)) fr.name := by
  unfold Mach.Fr.atom Mach.Fr.pat atomOf
  rw [h, List.map_append]
  rfl
section
variable {P : Program} {w : World} {K : PySem.W.Frag} {mg : Str → Option Value} {base : Heap} {C CB CF fI : Addr} {cs : Cs} {H H1 : Hp} {a dx ag an ab : Addr} {g : List UInt8} {ts : List Addr} {ks : List Bk} {M : PM} {F0 : Hp} {st : Mach.St} {Q : VK} {E : XK}
/-- a part is put behind the others of its row -/
theorem RS.push {k : Bk} {fr : Fr} {frs : List Fr} (h : RS K C CB cs H a dx ag an ab g ts (k :: ks) M F0 st) (hf : st.frs = fr :: frs) {rs : Rws} {al x : Addr} {bs : List Addr} {pt : Pat} (er : k.rows = rs ++ [(al, bs)]) (hx : Fits M x pt (3 * (st.p - frs.length) / 2))
    (hb : BAt CB H1 k.b k.dx (fclose fr) k.num k.ar (((fsize fr : Nat) : Int) + (pt.size : Nat)) (some ((pt.size : Nat) : Int))) (hal : H1 al = some (.lst (bs.map V.ref ++ [V.ref x]))) (hk : KeptL H H1 [k.b, al]) (hlen : bs.length + 1 ≤ st.p) :
    RS K C CB cs H1 a dx ag an ab g ts ({ k with rows := rs ++ [(al, bs ++ [x])] } :: ks) M F0 { st with frs := fr.push pt :: frs } := by
  have sk := h.sk
  rw [hf] at sk
  obtain ⟨hbr, hs⟩ := sk
  have hnd := h.n3.1
  have hal' : H1 al = some (.lst ((bs ++ [x]).map V.ref)) := by rw [hal, List.map_append]; rfl
  obtain ⟨hl1, hl2⟩ := hbr.lists er hnd hk hal'
  obtain ⟨rs', al', bs', rss', er', hfr', hfi', hrows', _⟩ := hbr.cur
  have err : rs' = rs ∧ al' = al ∧ bs' = bs := by
    rw [er] at er'
    have := List.append_inj' er' rfl
    have h2 := List.cons.inj this.2
    injection h2.1 with h3 h4
    exact ⟨this.1.symm, h3.symm, h4.symm⟩
  obtain ⟨rfl, rfl, rfl⟩ := err
  have hfoot : ({ k with rows := rs' ++ [(al', bs' ++ [x])] } : Bk).foot = k.foot := by
    unfold Bk.foot
    rw [er]
    simp
  have hbm : k.b ∈ k.foot := List.mem_cons_self ..
  have hlm : al' ∈ k.foot := by
    unfold Bk.foot
    rw [er]
    simp
  have kf : KeptL H H1 k.foot := fun y o e n => hk y o e fun m => n (by
    rcases List.mem_cons.mp m with m | m
    · rw [m]; exact hbm
    · rw [List.mem_singleton.mp m]; exact hlm)
  refine RS.top h hf (k1 := { k with rows := rs' ++ [(al', bs' ++ [x])] }) kf rfl ?_ (by rw [hfoot]; exact hnd) (fun y m => .inl (by rw [hfoot] at m; exact m))
  exact {
    at_ := by
      rw [push_size, push_last]
      push_cast
      exact hb
    arl := hl1
    rws := hl2
    fit := ⟨rss', RowsFit.snoc (AllFit.snoc hx hfi') hfr', hrows'⟩
    num := hbr.num
    last := fun _ => by simp [Mach.Fr.push]
    clo := hbr.clo
    out := hbr.out
    rlen := by
      have := hbr.rlen
      rw [er] at this
      show (rs' ++ [(al', bs' ++ [x])]).length ≤ st.p + 1
      rw [List.length_append] at this ⊢
      exact this
    ilen := fun r m => by
      rcases List.mem_append.mp m with m | m
      · exact hbr.ilen r (by rw [er]; exact List.mem_append_left _ m)
      · rw [List.mem_singleton.mp m]
        show (bs' ++ [x]).length ≤ st.p
        rw [List.length_append]
        exact hlen }
@[irreducible] def spClose (K : PySem.W.Frag) (C CB CF : Addr) (cs : Cs) : Sp := fun vs H Q E => ∃ (a dx ag an ab : Addr) (g : List UInt8) (ts : List Addr) (ks : List Bk) (M : PM) (F : Hp) (st : Mach.St) (fr : Fr) (frs : List Fr) (c : UInt8), vs = [.ref a] ∧ RS K C CB cs H a dx ag an ab g ts ks M F st ∧ st.frs = fr :: frs ∧
  g[st.p]? = some c ∧ StepRet K C CB CF cs a dx ag an ab g F Q E (closeStep st g fr frs c)
theorem close_use {fr : Fr} {frs : List Fr} {c : UInt8} (h : RS K C CB cs H a dx ag an ab g ts ks M F0 st) (hf : st.frs = fr :: frs) (hc : g[st.p]? = some c) (r : StepRet K C CB CF cs a dx ag an ab g F0 Q E (closeStep st g fr frs c)) : spClose K C CB CF cs [.ref a] H Q E := by
  unfold spClose
  exact ⟨a, dx, ag, an, ab, g, ts, ks, M, F0, st, fr, frs, c, rfl, h, hf, hc, r⟩
theorem badd_use {b dxb x ar al : Addr} {as : List Addr} {its : List V} {z : Str} {num : V} {n m : Int} {l : Option Int} (hb : BAt CB H b dxb z num ar n l) (har : H ar = some (.lst (as.map V.ref ++ [V.ref al]))) (hal : H al = some (.lst its)) (hlen : its.length ≤ 1000)
    (r : ∀ H', BAt CB H' b dxb z num ar (n + m) (some m) → H' al = some (.lst (its ++ [V.ref x])) → KeptL H H' [b, al] → Q .non H') : spBAdd CB [.ref b, .ref x, .int m] H Q E := by
  unfold spBAdd
  exact ⟨b, dxb, x, ar, al, as, its, z, num, n, m, l, rfl, hb, har, hal, hlen, r⟩
theorem bend_use {b dxb ar : Addr} {xs : List V} {z : Str} {num : V} {n : Int} {l : Option Int} (hb : BAt CB H b dxb z num ar n l) (har : H ar = some (.lst xs)) (hlen : xs.length ≤ 1000)
    (r : ∀ H' al, BAt CB H' b dxb z num ar n none → H al = none → H' al = some (.lst []) → H' ar = some (.lst (xs ++ [V.ref al])) → KeptL H H' [b, ar] → Q .non H') : spBEnd CB [.ref b] H Q E := by
  unfold spBEnd
  exact ⟨b, dxb, ar, xs, z, num, n, l, rfl, hb, har, hlen, r⟩
theorem made_use {k : Bk} {fr : Fr} {nm : List Name} {p h D : Nat} {rss : List (List Pat)} (hbr : BrOk CB H M nm p h k fr) (hne : k.rows ≠ []) (hp : p + 1 ≤ 1000) (hfit : RowsFit M D k.rows (rss ++ [fr.items])) (hW : Wd K cs M F0 nm) (hs : Same F0 H) (hrows : fr.rows = rss.map Mach.seqs)
    (r : Makes K cs nm M F0 H (k.rows.map (·.1)) fr.atom (D + 3) Q) : spMade K CB cs [.ref k.b] H Q E := by
  unfold spMade
  refine ⟨k.b, k.dx, k.ar, _, k.num, _, _, k.rows, rss ++ [fr.items], M, F0, nm, fr.name, D, rfl, hbr.at_, hbr.arl, hbr.rws, hfit, hne, Nat.le_trans hbr.rlen hp, fun r m => Nat.le_trans (hbr.ilen r m) (by omega), hW, hs, hbr.num, ?_⟩
  rw [← atom_of fr rss hrows]
  exact r
/-- what made_part has frozen leaves what may change -/
theorem RS.made {F1 : Hp} {M1 : PM} {rows : List Addr} (h : RS K C CB cs H a dx ag an ab g ts ks M F0 st) (s : Same H H1) (sF : Same F0 F1) (sH : Same F1 H1) (hM : ∀ b i, M b = some i → M1 b = some i) (hw : Wd K cs M1 F1 (nmsOf st)) (hg : Grown H rows F0 F1) (hr : ∀ x ∈ [a, an, ab] ++ foots ks, x ∉ rows) :
    RS K C CB cs H1 a dx ag an ab g ts ks M1 F1 st := by
  refine (h.same s).grow hM hw sF sH fun x m => ?_
  cases e : F1 x with
  | none => rfl
  | some o =>
    obtain ⟨h1, h2⟩ := h.mut x m
    rcases hg x (by rw [e]; exact fun h => nomatch h) with y | y | y | y
    · exact absurd (h.fm x m) y
    · exact absurd y h1
    · exact absurd y (hr x m)
    · rw [h2] at y; cases y
theorem scClose : FnScope ["self", "closed"] ["self"] (defScope (sR 18)) := ⟨rfl, rfl, rfl, by decide +kernel, rfl, by decide +kernel, by decide +kernel⟩
theorem ok_close {f : Addr} {fd : FuncData} (F : Fun K "take_closing" "Reader.take_closing" (sR 18) f fd) (T : Txt K mg C CF fI) (TB : TxB K CB)
    (M1 : MOk P w K mg base (L2N.CX P w) C 3 "take" ["self", "signs"] (spTake K C CF)) (M2 : MOk P w K mg base CX0 CB 1 "add_atom" ["self", "part", "atoms"] (spBAdd CB)) (M3 : MOk P w K mg base CX0 CB 4 "made_part" ["self"] (spMade K CB cs)) :
    FnOk P w K mg base (L2N.CX P w) 5 f fd ["self"] (spClose K C CB CF cs) := by
  obtain ⟨f1, fd1, m1, b1, G1⟩ := M1
  obtain ⟨f2, fd2, m2, b2, G2⟩ := M2
  obtain ⟨f3, fd3, m3, b3, G3⟩ := M3
  refine F.okN scClose (fun vs H Q E h => ?_) (fun cdv A outer s H vs Q E hr h => ⟨_, pss_cons (ps_expr (pe_meth (pv 0) T.cl m1 G1 (hr.mono (by decide)) b1 .nil (L2N.passes_call (L2N.takes_of rfl rfl rfl rfl) (fun _ _ _ _ h => h)) (by exact (pa_cons (pe_fld (pe_ix ix_list (pe_fld (pv 0) rfl) (pe_un un_neg pe_int) (fun _ _ => rfl)) rfl) pa_nil))))
      (pss_cons (ps_set (i := 1) scClose.nd rfl (Or.inl rfl) (pe_bm0 PySem.F.plainAttrs_list PySem.F.slot_list_pop PySem.F.type_list_pop mt_pop (pe_fld (pv 0) rfl)))
      (pss_one (ps_expr (pe_meth (pe_ix ix_list (pe_fld (pv 0) rfl) (pe_un un_neg pe_int) (fun _ _ => rfl)) TB.cl m2 G2 (hr.mono (by decide)) b2 .nil pass0 (by exact (pa_cons (pe_meth0 (pv 1) TB.cl m3 G3 (hr.mono (by decide)) b3 .nil pass0) (pa_cons (pe_fld (pv 1) rfl) pa_nil))))))), ?_⟩)
  · unfold spClose at h
    obtain ⟨_, _, _, _, _, _, _, _, _, _, _, _, _, _, rfl, _⟩ := h
    rfl
  unfold spClose at h
  obtain ⟨a, dx, ag, an, ab, g, ts, ks, M, F0, st, fr, frs, c, rfl, h, hf, hc, hQ⟩ := h
  have hlt := lt_of_some hc
  have sk := h.sk
  rw [hf] at sk
  cases ks with
  | nil => exact sk.elim
  | cons k ks =>
    obtain ⟨hbr, hs⟩ := sk
    refine ⟨_, rfl, a, dx, _, rfl, h.rd.1, rF_no (by decide +kernel), _, rfl, a, C, dx, _, _, rfl, h.rd.1, T.cl, T.nB, rF_brackets, _, rfl, ab, _, _, _, rfl, rfl, h.lastB, atI_last _ _, k.b, CB, k.dx, _, _, rfl, hbr.at_, TB.cl, TB.nC, bF_closing, ?_⟩
    refine take_use h.rd ?_
    unfold closeStep at hQ
    by_cases hcc : fr.close = [c]
    · rw [if_pos hcc] at hQ
      rw [takeE_yes hc (by rw [close_has hbr.clo]; exact decide_eq_true hcc)]
      intro H1 r1 k1
      have h1 := h.go r1 k1 (by omega) (Nat.le_succ _)
      cases frs with
      | nil =>
        rw [(hbr.out rfl).1] at hcc
        cases hcc
      | cons gg gs =>
        cases ks with
        | nil => exact hs.elim
        | cons k' ks' =>
          obtain ⟨hbr', hs'⟩ := hs
          have hQ' : ∀ H' ts' ks'' M' F', RS K C CB cs H' a dx ag an ab g ts' ks'' M' F' ⟨st.p + 1, g.drop (st.p + 1), st.ns, gg.push fr.atom :: gs⟩ → Same F0 F' → Q .non H' := hQ
          have ebl : H1 ab = some (.lst ((((k' :: ks').map Bk.b).reverse.map V.ref) ++ [V.ref k.b])) := by
            have e := h1.bl
            rw [List.map_cons, List.reverse_cons, List.map_append] at e
            exact e
          refine ⟨_, rfl, a, C, dx, _, _, rfl, h1.rd.1, T.cl, T.nB, rF_brackets, .inl ⟨rfl, _, .inl (.inl ebl)⟩, ab, _, V.ref k.b, rfl, rfl, ebl, by simp, ?_⟩
          -- popped
          have hdl : ((((k' :: ks').map Bk.b).reverse.map V.ref) ++ [V.ref k.b]).dropLast = ((k' :: ks').map Bk.b).reverse.map V.ref := List.dropLast_concat
          rw [hdl]
          have sk1 := h1.sk
          have hfe : ({ st with p := st.p + 1, b := g.drop (st.p + 1) } : Mach.St).frs = fr :: gg :: gs := hf
          rw [hfe] at sk1
          have hfl1 := h1.flen
          have hpl1 := h1.plen
          rw [hfe] at hfl1 hpl1
          obtain ⟨hbr1, hs1⟩ := sk1
          obtain ⟨n31, n32, n33⟩ := h1.n3
          have n2s : Sep [a, an, ab] (foots (k' :: ks')) := fun x m m2 => h1.n2 x m (by rw [foots_cons]; exact List.mem_append_right _ m2)
          have h2 := h1.pile (frs' := gg :: gs) hs1 (Nat.le_of_succ_le hfl1) (Nat.le_of_succ_le hpl1) n2s n33 (fun x m => h1.fm x (List.mem_append_right _ (by rw [foots_cons]; exact List.mem_append_right _ m)))
          have habk : ab ∉ k.foot := fun m => h1.n2 ab (by simp) (by rw [foots_cons]; exact List.mem_append_left _ m)
          have hbr2 := hbr1.keep (H' := upd H1 ab (.lst (((k' :: ks').map Bk.b).reverse.map V.ref))) (fun b o e m => (upd_ne (fun x => habk (by rw [← x]; exact m))).trans e) (fun _ _ h => h) (fun _ _ h => h) (Nat.le_refl _)
          have sk2 := h2.sk
          obtain ⟨hbr2', _⟩ := sk2
          refine ⟨_, rfl, a, C, dx, _, _, rfl, h2.rd.1, T.cl, T.nB, rF_brackets, _, rfl, ab, _, _, _, rfl, rfl, h2.lastB, atI_last _ _, k'.b, k'.dx, _, rfl, hbr2'.at_, bF_no (by decide +kernel), ?_⟩
          refine ⟨_, rfl, k.b, k.dx, _, rfl, hbr2.at_, bF_no (by decide +kernel), ?_⟩
          obtain ⟨rss, hfit, hrows⟩ := hbr.fit
          have hg128 := h.g128
          have hrne : k.rows ≠ [] := fun e => by
            rw [e] at hfit
            have := hfit.len
            rw [List.length_append] at this
            simp at this
          refine made_use hbr2 hrne (by show st.p + 1 + 1 ≤ 1000; omega) hfit h2.wd h2.fz hrows ?_
          intro H3 M1 F1 x s3 sF3 sFH3 hM3 hW3 hg3 hx3
          have h3 := h2.made s3 sF3 sFH3 hM3 hW3 hg3 (fun y m m2 => by
            have mk : y ∈ k.foot := List.mem_cons_of_mem _ (List.mem_cons_of_mem _ m2)
            rcases List.mem_append.mp m with m | m
            · exact h1.n2 y m (by rw [foots_cons]; exact List.mem_append_left _ mk)
            · exact n32 y mk m)
          refine ⟨_, rfl, k.b, CB, k.dx, _, _, rfl, s3 _ _ hbr2.at_, TB.cl, TB.nA, bF_atoms, ?_⟩
          have sk3 := h3.sk
          obtain ⟨hbr3, _⟩ := sk3
          obtain ⟨rs, al, bs, rss3, er3, hfr3, hfi3, hrows3, har3, hal3, hbl3⟩ := hbr3.cur
          have hbl0 : bs.length ≤ st.p := hbr'.ilen (al, bs) (by rw [er3]; simp)
          refine badd_use hbr3.at_ har3 hal3 (by rw [List.length_map]; omega) fun H4 hb4 hal4 k4 => ?_
          have hpl := h.plen
          rw [hf, List.length_cons, List.length_cons] at hpl
          refine hQ' H4 ts _ M1 F1 (RS.push h3 rfl er3 (pt := fr.atom) (hx3.mono (fun _ _ h => h) ?_) ?_ hal4 k4 ?_) sF3
          · show 3 * (st.p - (gg :: gs).length) / 2 + 3 ≤ 3 * (st.p + 1 - gs.length) / 2
            rw [List.length_cons]
            omega
          · rw [atom_size]
            exact hb4
          · show bs.length + 1 ≤ st.p + 1
            omega
    · rw [if_neg hcc] at hQ
      rw [takeE_no hc (by rw [close_has hbr.clo]; exact decide_eq_false hcc)]
      exact hQ
end
end Pat
end

section
namespace Pat
open PySem PySem.Spec PyProof.Rows L2
open PySem.FaultX (FaultTxt)
open PatUtf (Fault)
open PatWords (Pat repP timesP Name)
open Mach (Fr)
/-! ### lists of bytes as data -/
def gd (n : List UInt8) : List PyData := n.map fun c => PyData.int (c.toNat : Nat)
theorem dp_ints {K : PySem.W.Frag} {H : Hp} : ∀ n : List UInt8, DpAll K H (gv n) (gd n)
  | [] => .nil
  | c :: n => .cons (.int _) (dp_ints n)
theorem gd_eqv : ∀ x y : List UInt8, PyData.eqvAll (gd x) (gd y) = (x == y)
  | [], [] => by simp [gd, PyData.eqvAll]
  | [], _ :: _ => by simp [gd, PyData.eqvAll]
  | _ :: _, [] => by simp [gd, PyData.eqvAll]
  | c :: x, d :: y => by
    have ih := gd_eqv x y
    have e1 : PyData.eqvAll (gd (c :: x)) (gd (d :: y)) = (PyData.eqv (.int (c.toNat : Nat)) (.int (d.toNat : Nat)) && PyData.eqvAll (gd x) (gd y)) := by
      show PyData.eqvAll (_ :: gd x) (_ :: gd y) = _
      rw [PyData.eqvAll]
    rw [e1, ih]
    have e2 : PyData.eqv (.int (c.toNat : Nat)) (.int (d.toNat : Nat)) = (c == d) := by
      rw [PyData.eqv]
      by_cases h : c = d
      · subst h
        simp
      · have h2 : ¬ c.toNat = d.toNat := fun z => h (UInt8.toNat_inj.mp z)
        have h3 : (c == d) = false := by simpa using h
        rw [h3]
        cases e : (((c.toNat : Nat) : Int) == ((d.toNat : Nat) : Int)) with
        | false => rfl
        | true => exact absurd (Int.ofNat.inj (beq_iff_eq.mp e)) h2
    rw [e2]
    rfl
theorem gd_lay : ∀ n : List UInt8, PyData.canLayAll0 (gd n) = true
  | [] => by simp [gd, PyData.canLayAll0]
  | c :: n => by
    show PyData.canLayAll0 (_ :: gd n) = true
    rw [PyData.canLayAll0, gd_lay n, PyData.canLay0]
    rfl
theorem gd_depth : ∀ n : List UInt8, PyData.depthAll (gd n) = 0
  | [] => by simp [gd, PyData.depthAll]
  | c :: n => by
    show PyData.depthAll (_ :: gd n) = 0
    rw [PyData.depthAll, gd_depth n, PyData.depth]
    rfl
theorem gd_shaped (n : List UInt8) : SeqAt.shaped (.list (gd n)) = true := by
  unfold SeqAt.shaped
  rw [PyData.canLay0, gd_lay, PyData.depth, gd_depth]
  rfl
theorem gds_lay : ∀ l : List (List UInt8), PyData.canLayAll0 (l.map fun n => PyData.list (gd n)) = true ∧ PyData.depthAll (l.map fun n => PyData.list (gd n)) ≤ 1
  | [] => by simp [PyData.canLayAll0, PyData.depthAll]
  | n :: l => by
    obtain ⟨h1, h2⟩ := gds_lay l
    show PyData.canLayAll0 (_ :: l.map _) = true ∧ PyData.depthAll (_ :: l.map _) ≤ 1
    rw [PyData.canLayAll0, h1, PyData.canLay0, gd_lay, PyData.depthAll, PyData.depth, gd_depth]
    exact ⟨rfl, by omega⟩
theorem gds_shaped (l : List (List UInt8)) : SeqAt.shaped (.list (l.map fun n => PyData.list (gd n))) = true := by
  obtain ⟨h1, h2⟩ := gds_lay l
  unfold SeqAt.shaped
  rw [PyData.canLay0, h1, PyData.depth, Bool.true_and]
  exact decide_eq_true (by omega)
theorem cut_gv {g : List UInt8} {p q : Nat} (h : p ≤ q) : cutV (gv g) (some ((p : Nat) : Int)) (some ((q : Nat) : Int)) = gv ((g.drop p).take (q - p)) := by
  unfold cutV
  rw [HT.sIx_nat, HT.sIx_nat, gv_len]
  unfold gv
  rw [List.map_take, List.map_drop]
  by_cases hp : p ≤ g.length
  · rw [Nat.min_eq_left hp]
    by_cases hq : q ≤ g.length
    · rw [Nat.min_eq_left hq]
    · rw [Nat.min_eq_right (by omega), List.take_of_length_le (by simp), List.take_of_length_le (by simp; omega)]
  · rw [Nat.min_eq_right (by omega), Nat.min_eq_right (by omega), List.drop_of_length_le (by simp), List.drop_of_length_le (by simp; omega)]
    simp
/-- new lists, each of a name's bytes -/
def Lss (H : Hp) (D : Addr) : List Addr → List Name → Prop
  | [], [] => True
  | p :: ps, n :: ns => (H p = some (.lst (gv n)) ∧ p ≠ D) ∧ Lss H D ps ns
  | _, _ => False
theorem Lss.keep {H H' : Hp} {D : Addr} (k : ∀ q o, q ≠ D → H q = some o → H' q = some o) : ∀ {ps : List Addr} {ns : List Name}, Lss H D ps ns → Lss H' D ps ns
  | [], [], _ => trivial
  | [], _ :: _, h => h.elim
  | _ :: _, [], h => h.elim
  | p :: ps, n :: ns, ⟨⟨h1, h2⟩, h3⟩ => ⟨⟨k _ _ h2 h1, h2⟩, Lss.keep k h3⟩
theorem Lss.snoc {H : Hp} {D p : Addr} {n : Name} (hp : H p = some (.lst (gv n))) (hd : p ≠ D) : ∀ {ps : List Addr} {ns : List Name}, Lss H D ps ns → Lss H D (ps ++ [p]) (ns ++ [n])
  | [], [], _ => ⟨⟨hp, hd⟩, trivial⟩
  | [], _ :: _, h => h.elim
  | _ :: _, [], h => h.elim
  | _ :: ps, _ :: ns, ⟨h1, h2⟩ => ⟨h1, Lss.snoc hp hd h2⟩
theorem Lss.len {H : Hp} {D : Addr} : ∀ {ps : List Addr} {ns : List Name}, Lss H D ps ns → ps.length = ns.length
  | [], [], _ => rfl
  | [], _ :: _, h => h.elim
  | _ :: _, [], h => h.elim
  | _ :: ps, _ :: ns, ⟨_, h2⟩ => congrArg (· + 1) (Lss.len h2)
theorem Lss.dp {K : PySem.W.Frag} {H : Hp} {D : Addr} : ∀ {ps : List Addr} {ns : List Name}, Lss H D ps ns → DpAll K H (ps.map V.ref) (ns.map fun n => PyData.list (gd n))
  | [], [], _ => .nil
  | [], _ :: _, h => h.elim
  | _ :: _, [], h => h.elim
  | _ :: ps, _ :: ns, ⟨⟨h1, _⟩, h2⟩ => .cons (.lst (SqL.of h1) (dp_ints _)) (Lss.dp h2)
section
variable {P : Program} {w : World} {K : PySem.W.Frag} {mg : Str → Option Value} {base : Heap} {C CB CF fI : Addr} {cs : Cs} {H : Hp} {a dx ag an ab : Addr} {g : List UInt8} {ts : List Addr} {ks : List Bk} {M : PM} {F0 : Hp} {st : Mach.St} {Q : VK} {E : XK}
theorem get_more {nm : List Name} {n : Name} : ∀ (k : Nat) (m : Name), nm[k]? = some m → (nm ++ [n])[k]? = some m := fun k m h => by
  rw [List.getElem?_append_left (List.getElem?_eq_some_iff.mp h).1]
  exact h
/-- a name is written behind the others -/
theorem RS.name (h : RS K C CB cs H a dx ag an ab g ts ks M F0 st) {t : Addr} {fp : Nat} {n : Name} (ht : SqT K H t [.int (fp : Nat), .int (n.length : Nat)]) (ok : NmOk g (fp, n)) (h16 : st.ns.length < 16) (hnew : n ∉ nmsOf st) :
    RS K C CB cs (upd H an (.lst (ts.map V.ref ++ [V.ref t]))) a dx ag an ab g (ts ++ [t]) ks M F0 { st with ns := st.ns ++ [(fp, n)] } := by
  have enm : nmsOf { st with ns := st.ns ++ [(fp, n)] } = nmsOf st ++ [n] := by
    show (st.ns ++ [(fp, n)]).map (·.2) = _
    rw [List.map_append]
    rfl
  exact {
    rd := ⟨(upd_ne h.n1.1).trans h.rd.1, sql_same h.sq (same_upd h.fz h.fn), h.rd.2.2⟩
    b := h.b
    nl := upd_same.trans (by rw [List.map_append]; rfl)
    nm := Nms.snoc (sqt_upd ht h.nl) (Nms.map (fun t xs e => sqt_upd e h.nl) h.nm)
    ok := fun x m => by
      rcases List.mem_append.mp m with m | m
      · exact h.ok x m
      · rw [List.mem_singleton.mp m]
        exact ok
    bl := (upd_ne h.n1.2.2.symm).trans h.bl
    sk := by
      rw [enm]
      exact Stk.keep (fun _ _ h => h) get_more (Nat.le_refl _) h.sk fun b o e m => (upd_ne (fun x => h.n2 an (by simp) (by rw [← x]; exact m))).trans e
    wd := by
      rw [enm]
      exact h.wd.names get_more
    fz := same_upd h.fz h.fn
    sq := h.sq
    n1 := h.n1
    n2 := h.n2
    n3 := h.n3
    fm := h.fm
    nmd := by
      rw [enm]
      refine List.nodup_append.mpr ⟨h.nmd, by simp, fun x m y m2 e => ?_⟩
      rw [List.mem_singleton.mp m2] at e
      exact hnew (by rw [← e]; exact m)
    nlen := by
      show (st.ns ++ [(fp, n)]).length ≤ 16
      rw [List.length_append]
      exact h16
    flen := h.flen
    plen := h.plen
    g128 := h.g128 }
theorem hu65 {k : Nat} {A : Around} (hr : Room k A) : A.units + 65 < cLine := by
  have := hr.un
  omega
/-! ### names_in -/
@[irreducible] def spNmIn (K : PySem.W.Frag) : Sp := fun vs H Q _ => ∃ (ag an : Addr) (g : List UInt8) (ts : List Addr) (ns : List (Nat × Name)), vs = [.ref ag, .ref an] ∧ SqL K H ag (gv g) ∧ H an = some (.lst (ts.map V.ref)) ∧ Nms K H ts ns ∧ (∀ x ∈ ns, NmOk g x) ∧ ns.length ≤ 1000 ∧
  ∀ H' D ps, Same H H' → H D = none → H' D = some (.lst (ps.map V.ref)) → Lss H' D ps (ns.map Prod.snd) → Q (.ref D) H'
theorem nmin_use {ag an : Addr} {g : List UInt8} {ts : List Addr} {ns : List (Nat × Name)} (sq : SqL K H ag (gv g)) (han : H an = some (.lst (ts.map V.ref))) (hn : Nms K H ts ns) (ho : ∀ x ∈ ns, NmOk g x) (hl : ns.length ≤ 1000)
    (r : ∀ H' D ps, Same H H' → H D = none → H' D = some (.lst (ps.map V.ref)) → Lss H' D ps (ns.map Prod.snd) → Q (.ref D) H') : spNmIn K [.ref ag, .ref an] H Q E := by
  unfold spNmIn
  exact ⟨ag, an, g, ts, ns, rfl, sq, han, hn, ho, hl, r⟩
abbrev nmNmIn : List Str := ["given", "spots", "place", "length"]
theorem scNmIn : FnScope nmNmIn ["given", "spots"] (defScope (top i_names_in)) := ⟨rfl, rfl, rfl, by decide +kernel, rfl, by decide +kernel, by decide +kernel⟩
theorem ok_nmin {f : Addr} {fd : FuncData} (F : Fun K "names_in" "names_in" (top i_names_in) f fd) : FnOk P w K mg base CX0 2 f fd ["given", "spots"] (spNmIn K) := by
  refine F.ok scNmIn (fun vs H Q E h => ?_) (fun cdv A outer s H vs Q E hr h => ⟨_, pss_one (ps_ret (pe_lc (own := [("place", 2), ("length", 3)]) (g := gTup K 2 (gCons (gName 2) (gCons (gName 3) gNil))) (tt := tYes) (te := tSl (rSlL K) (tVar 0) (tPart (tVar 2)) (tPart (tOp (rI0 fun i j => .int (i + j)) (tVar 2) (tVar 3)))) rfl scNmIn.nd (pi_list (pv 1)) (blkOk_by (N := nmNmIn) (sc := defScope (top i_names_in)) (by decide +kernel))
          (fun _ _ _ _ _ => pg_tup rfl (pgs_cons (pg_name (i := 2) scNmIn.nd rfl (Or.inl rfl)) (pgs_cons (pg_name (i := 3) scNmIn.nd rfl (Or.inl rfl)) pgs_nil))) (fun _ _ _ _ _ => pts_nil)
          (fun _ _ _ _ _ => by exact (pe_slice sl_list (pv 0) (po_some (pv 2)) (po_some (pe_op op_add (pv 2) (pv 3))))))), ?_⟩)
  · unfold spNmIn at h
    obtain ⟨_, _, _, _, _, rfl, _⟩ := h
    rfl
  unfold spNmIn at h
  obtain ⟨ag, an, g, ts, ns, rfl, sq, han, hnm, hok0, hl, hQ⟩ := h
  have htl := Nms.len hnm
  refine ⟨_, rfl, an, rfl, ⟨_, SqL.of han⟩, fun D hD => ?_⟩
  refine lc_it walk_list (fun i H1 => Same H H1 ∧ ∃ ps, H1 D = some (.lst (ps.map V.ref)) ∧ Lss H1 D ps ((ns.take i).map Prod.snd)) ⟨Same.upd hD, [], upd_same, trivial⟩ (fun i H1 _ hp => SqL.of (hp.1 _ _ han)) ?_ ?_
  · rintro i x H1 H2 hi ⟨s1, ps, hps, hl2⟩ ⟨rfl, hx⟩
    rw [List.getElem?_map] at hx
    obtain ⟨t, ht, rfl⟩ : ∃ t, ts[i]? = some t ∧ x = V.ref t := by
      cases e : ts[i]? with
      | none => rw [e] at hx; cases hx
      | some t => rw [e] at hx; exact ⟨t, rfl, (Option.some.inj hx).symm⟩
    obtain ⟨n, hn, hsq⟩ := Nms.get (Nms.map (fun t xs e => sqt_same e s1) hnm) ht
    have hok : NmOk g n := hok0 n (List.mem_of_getElem? hn)
    refine ⟨t, _, rfl, hsq, rfl, _, _, rfl, _, _, rfl, rfl, rfl, ?_⟩
    unfold tYes
    dsimp only
    rw [if_pos rfl]
    refine ⟨_, rfl, _, rfl, _, rfl, _, rfl, _, rfl, _, _, rfl, rfl, _, rfl, ag, _, rfl, sql_same sq s1, fun p hp => ?_⟩
    have hpD : p ≠ D := (ne_of_none hps hp).symm
    refine ⟨_, (upd_ne hpD.symm).trans hps, ?_, ?_⟩
    · rw [List.length_map, Lss.len hl2, List.length_map, List.length_take]
      exact small1000 (by omega)
    · have ecut : cutV (gv g) (some ((n.1 : Nat) : Int)) (some (((n.1 : Nat) : Int) + ((n.2.length : Nat) : Int))) = gv n.2 := by
        have e1 : (((n.1 : Nat) : Int) + ((n.2.length : Nat) : Int)) = (((n.1 + n.2.length : Nat)) : Int) := by omega
        rw [e1, cut_gv (by omega), Nat.add_sub_cancel_left, ← hok]
      rw [ecut]
      refine ⟨fun b o e => ?_, ps ++ [p], ?_, ?_⟩
      · rw [upd_ne (ne_of_none e hD), upd_ne (ne_of_none (s1 b o e) hp)]
        exact s1 b o e
      · rw [upd_same, List.map_append]
        rfl
      · have e2 : (ns.take (i + 1)).map Prod.snd = (ns.take i).map Prod.snd ++ [n.2] := by
          rw [List.take_add_one, hn, List.map_append]
          rfl
        rw [e2]
        refine Lss.snoc ((upd_ne hpD).trans upd_same) hpD (Lss.keep (fun q o hq e => ?_) hl2)
        rw [upd_ne hq, upd_ne (ne_of_none e hp)]
        exact e
  · rintro H1 ⟨s1, ps, hps, hl2⟩
    have et : ns.take (ts.map V.ref).length = ns := List.take_of_length_le (by rw [List.length_map, htl]; exact Nat.le_refl _)
    rw [et] at hl2
    exact hQ H1 D ps s1 hD hps hl2
/-! ### keep_name -/
def keepStep (g : List UInt8) (st : Mach.St) (fp : Nat) : Except Fault Mach.St :=
  if PatWords.NAMELEN < ((g.drop fp).take (st.p - fp)).length ∨ (st.ns.any fun (y : Nat × Name) => y.2 == (g.drop fp).take (st.p - fp)) = true ∨ PatWords.NAMES ≤ st.ns.length then .error ⟨4, fp⟩ else .ok { st with ns := st.ns ++ [(fp, (g.drop fp).take (st.p - fp))] }
@[irreducible] def spKeep (K : PySem.W.Frag) (C CB CF : Addr) (cs : Cs) : Sp := fun vs H Q E => ∃ (a dx ag an ab : Addr) (g : List UInt8) (ts : List Addr) (ks : List Bk) (M : PM) (F : Hp) (st : Mach.St) (fp : Nat), vs = [.ref a, .int fp] ∧ RS K C CB cs H a dx ag an ab g ts ks M F st ∧ fp ≤ st.p ∧ StepRet K C CB CF cs a dx ag an ab g F Q E (keepStep g st fp)
theorem keep_use {fp : Nat} (h : RS K C CB cs H a dx ag an ab g ts ks M F0 st) (hfp : fp ≤ st.p) (r : StepRet K C CB CF cs a dx ag an ab g F0 Q E (keepStep g st fp)) : spKeep K C CB CF cs [.ref a, .int (fp : Nat)] H Q E := by
  unfold spKeep
  exact ⟨a, dx, ag, an, ab, g, ts, ks, M, F0, st, fp, rfl, h, hfp, r⟩
abbrev nmKeep : List Str := ["self", "first_place", "length", "taken", "known"]
theorem scKeep : FnScope nmKeep ["self", "first_place"] (defScope (sR 15)) := ⟨rfl, rfl, rfl, by decide +kernel, rfl, by decide +kernel, by decide +kernel⟩
theorem ok_keep {f : Addr} {fd : FuncData} (F : Fun K "keep_name" "Reader.keep_name" (sR 15) f fd) (T : Txt K mg C CF fI) (k32 : ∃ t, mg "LONGEST_NAME" = some (.int 32 t)) (k16 : ∃ t, mg "MOST_NAMES" = some (.int 16 t)) (k4 : ∃ t, mg "NAME_REFUSED" = some (.int 4 t)) (G1 : GOk P w K mg base CX0 2 "names_in" ["given", "spots"] (spNmIn K)) :
    FnOk P w K mg base (L2N.CX P w) 3 f fd ["self", "first_place"] (spKeep K C CB CF cs) := by
  obtain ⟨f1, fd1, gg1, k1, b1, G1⟩ := G1
  refine F.okN scKeep (fun vs H Q E h => ?_) (fun cdv A outer s H vs Q E hr h => ⟨_, pss_cons (ps_set (i := 2) scKeep.nd rfl (Or.inl rfl) (pe_op op_sub (pe_fld (pv 0) rfl) (pv 1)))
      (pss_cons (ps_set (i := 3) scKeep.nd rfl (Or.inl rfl) (pe_call G1 hr rfl gg1 k1 b1 .nil pass0 (by exact (pa_cons (pe_fld (pv 0) rfl) (pa_cons (pe_fld (pv 0) rfl) pa_nil)))))
      (pss_cons (ps_set (i := 4) scKeep.nd rfl (Or.inl rfl) (pe_cmpR (op_inD (hu65 hr)) (pe_slice sl_list (pe_fld (pv 0) rfl) (po_some (pv 1)) (po_some (pe_fld (pv 0) rfl))) (pv 3) (by rfl)))
      (pss_cons (ps_if (PW.pt (pw_or (pt_val (pv 4)) (pw_or (pt_cmpR op_gt (pv 2) (pe_gi k32) (nomark _)) (pw_or1 (pt_cmpR op_eq (pe_callB call_len_seq (by rfl) T.len PySem.boot_len (pa_cons (pv 3) pa_nil)) (pe_gi k16) (nomark _))))))
        (pss_one (ps_raiseFault rfl T.ft hr (L2N.takes_of rfl rfl rfl rfl) (by exact (pa_cons (pe_gi k4) (pa_cons (pv 1) pa_nil))))) pss_nil)
      (pss_one (ps_expr (pe_bm PySem.F.plainAttrs_list PySem.F.slot_list_append PySem.F.type_list_append mt_append (pe_fld (pv 0) rfl) (by exact (pa_cons (pe_tup (pa_cons (pv 1) (pa_cons (pv 2) pa_nil))) pa_nil)))))))), ?_⟩)
  · unfold spKeep at h
    obtain ⟨_, _, _, _, _, _, _, _, _, _, _, _, rfl, _⟩ := h
    rfl
  unfold spKeep at h
  obtain ⟨a, dx, ag, an, ab, g, ts, ks, M, F0, st, fp, rfl, h, hfp, hQ⟩ := h
  refine ⟨_, rfl, a, C, dx, _, _, rfl, h.rd.1, T.cl, T.nP, rF_place, _, rfl, _, _, rfl, rfl, ?_⟩
  refine ⟨_, rfl, a, C, dx, _, _, rfl, h.rd.1, T.cl, T.nG, rF_given, _, rfl, a, C, dx, _, _, rfl, h.rd.1, T.cl, T.nN, rF_names, ?_⟩
  have htl := Nms.len h.nm
  refine nmin_use h.rd.2.1 h.nl h.nm h.ok (by have := h.nlen; omega) fun H1 D ps s1 hD hps hl => ?_
  · have h1 := h.same s1
    have hlen : ((g.drop fp).take (st.p - fp)).length = st.p - fp := by
      rw [List.length_take, List.length_drop]
      have := h.rd.2.2.1
      omega
    refine ⟨_, rfl, a, C, dx, _, _, rfl, h1.rd.1, T.cl, T.nG, rF_given, _, rfl, _, rfl, _, rfl, a, C, dx, _, _, rfl, h1.rd.1, T.cl, T.nP, rF_place, _, rfl, ag, _, rfl, h1.rd.2.1, fun p hp => ?_⟩
    rw [cut_gv hfp]
    have s2 : Same H1 (upd H1 p (.lst (gv ((g.drop fp).take (st.p - fp))))) := Same.upd hp
    have h2 := h1.same s2
    have hpD : p ≠ D := (ne_of_none hps hp).symm
    have hl2 : Lss (upd H1 p (.lst (gv ((g.drop fp).take (st.p - fp))))) D ps (st.ns.map Prod.snd) := Lss.keep (fun q o _ e => s2 q o e) hl
    have hps2 := s2 _ _ hps
    refine ⟨_, rfl, _, _, .lst (SqL.of upd_same) (dp_ints _), .lst (SqL.of hps2) (Lss.dp hl2), gd_shaped _, gds_shaped _, ?_⟩
    have eany : (((st.ns.map Prod.snd).map fun n => PyData.list (gd n)).any fun z => PyData.eqv z (.list (gd ((g.drop fp).take (st.p - fp))))) = st.ns.any fun (y : Nat × Name) => y.2 == (g.drop fp).take (st.p - fp) := by
      rw [List.any_map, List.any_map]
      congr 1
      funext y
      show PyData.eqv (.list (gd y.2)) (.list (gd _)) = _
      rw [PyData.eqv, gd_eqv]
    rw [eany]
    unfold keepStep at hQ
    rw [hlen] at hQ
    refine ⟨_, rfl, _, rfl, ?_⟩
    by_cases c1 : (st.ns.any fun (y : Nat × Name) => y.2 == (g.drop fp).take (st.p - fp)) = true
    · rw [if_pos (.inr (.inl c1))] at hQ
      have hQ' : Out CF ⟨4, fp⟩ E := hQ
      exact if_true_of c1 (if_true_of rfl ⟨_, rfl, _, _, rfl, fun d hd => hQ' d _ upd_same⟩)
    · refine if_false_of (Bool.eq_false_iff.mpr c1) ⟨_, rfl, _, _, rfl, rfl, _, rfl, ?_⟩
      by_cases c2 : 32 < st.p - fp
      · rw [if_pos (.inl c2)] at hQ
        have hQ' : Out CF ⟨4, fp⟩ E := hQ
        exact if_true_of (decide_eq_true (by omega)) (if_true_of rfl ⟨_, rfl, _, _, rfl, fun d hd => hQ' d _ upd_same⟩)
      · refine if_false_of (decide_eq_false (by omega)) ⟨_, rfl, _, _, rfl, .inl (SqL.of hps2), rfl, _, rfl, ?_⟩
        have epl : (ps.map V.ref).length = st.ns.length := by rw [List.length_map, Lss.len hl2, List.length_map]
        have hn16 := h.nlen
        by_cases c3 : st.ns.length = 16
        · rw [if_pos (.inr (.inr (by unfold PatWords.NAMES; omega)))] at hQ
          have hQ' : Out CF ⟨4, fp⟩ E := hQ
          refine if_true_of ?_ ⟨_, rfl, _, _, rfl, fun d hd => hQ' d _ upd_same⟩
          rw [epl, c3]
          exact decide_eq_true rfl
        · rw [if_neg (by unfold PatWords.NAMES PatWords.NAMELEN; rintro (h | h | h); exact c2 h; exact c1 h; omega)] at hQ
          refine if_false_of (decide_eq_false fun e => c3 ?_) ?_
          · rw [epl] at e
            injection e with e
            omega
          have hQ' : ∀ H' ts' ks' M' F', RS K C CB cs H' a dx ag an ab g ts' ks' M' F' { st with ns := st.ns ++ [(fp, (g.drop fp).take (st.p - fp))] } → Same F0 F' → Q .non H' := hQ
          refine ⟨_, rfl, a, C, dx, _, _, rfl, h2.rd.1, T.cl, T.nN, rF_names, .inl ⟨rfl, _, SqL.of h2.nl⟩, _, rfl, _, rfl, by show 2 ≤ sizeLine; decide, fun t ht => ?_⟩
          have s3 := Same.upd (o := HO.tup [V.int (fp : Nat), V.int (((st.p : Nat) : Int) - ((fp : Nat) : Int))]) ht
          have h3 := h2.same s3
          have elen : (((st.p : Nat) : Int) - ((fp : Nat) : Int)) = (((g.drop fp).take (st.p - fp)).length : Int) := by
            rw [hlen]
            omega
          refine ⟨an, _, _, rfl, rfl, h3.nl, ?_, ?_⟩
          · rw [List.length_map, htl]
            exact small1000 (by omega)
          · refine hQ' _ _ _ _ _ (h3.name (t := t) (SqT.of (upd_same.trans (by rw [elen]))) ?_ (by omega) (fun m => c1 ?_)) (fun _ _ h => h)
            rotate_left
            · obtain ⟨y, hy, ey⟩ := List.mem_map.mp m
              exact List.any_eq_true.mpr ⟨y, hy, beq_iff_eq.mpr ey⟩
            show (g.drop fp).take (st.p - fp) = (g.drop fp).take ((g.drop fp).take (st.p - fp)).length
            rw [hlen]
end
end Pat
end

section
namespace Pat
open PySem PySem.Spec PyProof.Rows L2
open PySem.FaultX (FaultTxt)
open PatUtf (Fault)
open PatWords (Pat repP timesP Name)
open Mach (Fr)
abbrev zSmall : Str := "abcdefghijklmnopqrstuvwxyz"
abbrev zName : Str := "abcdefghijklmnopqrstuvwxyz0123456789_"
theorem at_small (c : UInt8) : (cds zSmall).contains c.toNat = PatUtf.isSmall c :=
  beq_iff_eq.mp (u8_all (p := fun c => (cds zSmall).contains c.toNat == PatUtf.isSmall c) (by decide +kernel) c)
theorem at_name (c : UInt8) : (cds zName).contains c.toNat = PatUtf.inName c :=
  beq_iff_eq.mp (u8_all (p := fun c => (cds zName).contains c.toNat == PatUtf.inName c) (by decide +kernel) c)
theorem small_name {c : UInt8} (h : PatUtf.isSmall c = true) : PatUtf.inName c = true := by
  unfold PatUtf.inName
  rw [h]
  rfl
def nameStep (g : List UInt8) (st : Mach.St) : Except Fault Mach.St := match Mach.nameP st.ns st.p (g.drop st.p) with
  | .error e => .error e
  | .ok (n, _, q) => .ok ⟨q, g.drop q, st.ns ++ [(st.p, n)], st.frs⟩
/-- what is told of a name from its end on -/
theorem name_rest {g : List UInt8} {st : Mach.St} {d : UInt8} {q : Nat} (hd : g[st.p]? = some d) (hs : PatUtf.isSmall d = true) (hq : st.p < q) (hql : q ≤ g.length) (hlen : ((g.drop st.p).takeWhile PatUtf.inName).length = q - st.p) :
    nameStep g st = if q = g.length then .error ⟨1, q⟩ else match keepStep g { st with p := q, b := g.drop q } st.p with
      | .error e => .error e
      | .ok st' => match g[q]? with
        | none => .error ⟨1, q⟩
        | some e => if e ≠ 32 then .error ⟨2, q⟩ else .ok { st' with p := q + 1, b := g.drop (q + 1) } := by
  have hdl : (g.drop st.p).length = g.length - st.p := List.length_drop
  have hn : (g.drop st.p).takeWhile PatUtf.inName = (g.drop st.p).take (q - st.p) := by
    have := List.prefix_iff_eq_take.mp (List.takeWhile_prefix (p := PatUtf.inName) (l := g.drop st.p))
    rw [hlen] at this
    exact this
  have htl : ((g.drop st.p).take (q - st.p)).length = q - st.p := by rw [← hn]; exact hlen
  unfold nameStep Mach.nameP
  rw [drop_cons hd]
  dsimp only
  rw [← drop_cons hd, hn, htl, hdl, if_neg (by rw [hs]; decide)]
  have ep : st.p + (q - st.p) = q := by omega
  by_cases c1 : q = g.length
  · rw [if_pos c1, if_pos (by omega), ep]
  · rw [if_neg c1, if_neg (by omega)]
    unfold keepStep
    dsimp only
    rw [htl]
    by_cases c2 : PatWords.NAMELEN < q - st.p ∨ (st.ns.any fun (y : Nat × Name) => y.2 == (g.drop st.p).take (q - st.p)) = true ∨ PatWords.NAMES ≤ st.ns.length
    · rw [if_pos c2, if_pos c2]
    · rw [if_neg c2, if_neg c2, List.drop_drop, ep]
      dsimp only
      cases he : g[q]? with
      | none => rw [drop_none he]
      | some e =>
        rw [drop_cons he]
        dsimp only
        by_cases c3 : e ≠ 32
        · rw [if_pos c3, if_pos c3]
        · rw [if_neg c3, if_neg c3]
          have e2 : st.p + 1 + (q - st.p) = q + 1 := by omega
          dsimp only
          rw [e2]
section
variable {P : Program} {w : World} {K : PySem.W.Frag} {mg : Str → Option Value} {base : Heap} {C CB CF fI : Addr} {cs : Cs} {H : Hp} {a dx ag an ab : Addr} {g : List UInt8} {ts : List Addr} {ks : List Bk} {M : PM} {F0 : Hp} {st : Mach.St} {Q : VK} {E : XK}
/-! ### take_name -/
@[irreducible] def spName (K : PySem.W.Frag) (C CB CF : Addr) (cs : Cs) : Sp := fun vs H Q E => ∃ (a dx ag an ab : Addr) (g : List UInt8) (ts : List Addr) (ks : List Bk) (M : PM) (F : Hp) (st : Mach.St), vs = [.ref a] ∧ RS K C CB cs H a dx ag an ab g ts ks M F st ∧ StepRet K C CB CF cs a dx ag an ab g F Q E (nameStep g st)
theorem name_use (h : RS K C CB cs H a dx ag an ab g ts ks M F0 st) (r : StepRet K C CB CF cs a dx ag an ab g F0 Q E (nameStep g st)) : spName K C CB CF cs [.ref a] H Q E := by
  unfold spName
  exact ⟨a, dx, ag, an, ab, g, ts, ks, M, F0, st, rfl, h, r⟩
theorem scName : FnScope ["self", "first_place"] ["self"] (defScope (sR 16)) := ⟨rfl, rfl, rfl, by decide +kernel, rfl, by decide +kernel, by decide +kernel⟩
theorem ok_name {f : Addr} {fd : FuncData} (F : Fun K "take_name" "Reader.take_name" (sR 16) f fd) (T : Txt K mg C CF fI) (hS1 : ∃ t, mg "SMALL_LETTERS" = some (.str zSmall t)) (hS2 : ∃ t, mg "NAME_SIGNS" = some (.str zName t))
    (M1 : MOk P w K mg base CX0 C 2 "at" ["self", "signs"] (spAt K C)) (M2 : MOk P w K mg base (L2N.CX P w) C 3 "take" ["self", "signs"] (spTake K C CF))
    (M3 : MOk P w K mg base (L2N.CX P w) C 2 "need_byte" ["self"] (spNeed K C CF)) (M4 : MOk P w K mg base (L2N.CX P w) C 3 "keep_name" ["self", "first_place"] (spKeep K C CB CF cs)) :
    FnOk P w K mg base (L2N.CX P w) 4 f fd ["self"] (spName K C CB CF cs) := by
  obtain ⟨f1, fd1, m1, b1, G1⟩ := M1
  obtain ⟨f2, fd2, m2, b2, G2⟩ := M2
  obtain ⟨f3, fd3, m3, b3, G3⟩ := M3
  obtain ⟨f4, fd4, m4, b4, G4⟩ := M4
  refine F.okN scName (fun vs H Q E h => ?_) (fun cdv A outer s H vs Q E hr h => ⟨_, pss_cons (ps_set (i := 1) scName.nd rfl (Or.inl rfl) (pe_fld (pv 0) rfl))
      (pss_cons (ps_expr (pe_meth (pv 0) T.cl m2 G2 hr b2 .nil (L2N.passes_call (L2N.takes_of rfl rfl rfl rfl) (fun _ _ _ _ h => h)) (by exact (pa_cons (pe_gs hS1) pa_nil))))
      (pss_cons (ps_while (passes_of rfl) (pt_val (pe_meth (pv 0) T.cl m1 G1 (hr.mono (by decide)) b1 .nil pass0 (by exact (pa_cons (pe_gs hS2) pa_nil)))) (pss_one (ps_expr (pe_meth (pv 0) T.cl m2 G2 hr b2 .nil (L2N.passes_call (L2N.takes_of rfl rfl rfl rfl) (fun _ _ _ _ h => h)) (by exact (pa_cons (pe_gs hS2) pa_nil))))))
      (pss_cons (ps_expr (pe_meth0 (pv 0) T.cl m3 G3 (hr.mono (by decide)) b3 .nil (L2N.passes_call (L2N.takes_of rfl rfl rfl rfl) (fun _ _ _ _ h => h))))
      (pss_cons (ps_expr (pe_meth (pv 0) T.cl m4 G4 (hr.mono (by decide)) b4 .nil (L2N.passes_call (L2N.takes_of rfl rfl rfl rfl) (fun _ _ _ _ h => h)) (by exact (pa_cons (pv 1) pa_nil))))
      (pss_one (ps_expr (pe_meth (pv 0) T.cl m2 G2 hr b2 .nil (L2N.passes_call (L2N.takes_of rfl rfl rfl rfl) (fun _ _ _ _ h => h)) (by exact (pa_cons pe_str pa_nil))))))))), ?_⟩)
  · unfold spName at h
    obtain ⟨_, _, _, _, _, _, _, _, _, _, _, rfl, _⟩ := h
    rfl
  unfold spName at h
  obtain ⟨a, dx, ag, an, ab, g, ts, ks, M, F0, st, rfl, h, hQ⟩ := h
  refine ⟨_, rfl, a, C, dx, _, _, rfl, h.rd.1, T.cl, T.nP, rF_place, ?_⟩
  refine ⟨_, rfl, a, dx, _, rfl, h.rd.1, rF_no (by decide +kernel), ?_⟩
  refine take_use h.rd ?_
  cases hd : g[st.p]? with
  | none =>
    have e : nameStep g st = .error ⟨1, st.p⟩ := by unfold nameStep; rw [drop_none hd]; rfl
    rw [e] at hQ
    rw [takeE_end hd]
    exact hQ
  | some d =>
    have hlt := lt_of_some hd
    cases hs : PatUtf.isSmall d with
    | false =>
      have e : nameStep g st = .error ⟨2, st.p⟩ := by
        unfold nameStep Mach.nameP
        rw [drop_cons hd]
        dsimp only
        rw [if_pos hs]
      rw [e] at hQ
      rw [takeE_no hd (by rw [at_small]; exact hs)]
      exact hQ
    | true =>
      rw [takeE_yes hd (by rw [at_small]; exact hs)]
      intro H1 r1 k1
      have h1 := h.go r1 k1 (by omega) (Nat.le_succ _)
      refine ⟨fun m σ H' => ∃ q, m = g.length - q ∧ σ = [some (.ref a), some (.int (st.p : Nat))] ∧ RS K C CB cs H' a dx ag an ab g ts ks M F0 { st with p := q, b := g.drop q } ∧ st.p < q ∧ ((g.drop st.p).takeWhile PatUtf.inName).length = q - st.p + ((g.drop q).takeWhile PatUtf.inName).length,
        ⟨_, st.p + 1, rfl, rfl, h1, by omega, ?_⟩, ?_⟩
      · rw [drop_cons hd, List.takeWhile_cons, if_pos (small_name hs), List.length_cons]
        omega
      rintro m σ H5 ⟨q, rfl, rfl, h5, hpq, hl⟩
      refine ⟨_, rfl, a, dx, _, rfl, h5.rd.1, rF_no (by decide +kernel), ?_⟩
      refine at_use h5.rd (by decide +kernel) fun H6 s6 => ?_
      have h6 := h5.same s6
      refine ⟨_, rfl, ?_⟩
      cases ea : isAt g q zName with
      | true =>
        obtain ⟨x, hx, hxn⟩ : ∃ x, g[q]? = some x ∧ PatUtf.inName x = true := by
          cases e : g[q]? with
          | none => rw [isAt_none e] at ea; cases ea
          | some x => rw [isAt_some e, at_name] at ea; exact ⟨x, rfl, ea⟩
        have hlq := lt_of_some hx
        refine if_true_of rfl ⟨fun σ' H' => σ' = [some (.ref a), some (.int (st.p : Nat))] ∧ RS K C CB cs H' a dx ag an ab g ts ks M F0 { st with p := q + 1, b := g.drop (q + 1) }, ?_, ?_⟩
        · rintro σ' H' ⟨rfl, h7⟩
          refine ⟨g.length - (q + 1), by omega, q + 1, rfl, rfl, h7, by omega, ?_⟩
          rw [hl, drop_cons hx, List.takeWhile_cons, if_pos hxn, List.length_cons]
          omega
        · refine ⟨_, rfl, a, dx, _, rfl, h6.rd.1, rF_no (by decide +kernel), ?_⟩
          refine take_use h6.rd ?_
          rw [takeE_yes hx (by rw [at_name]; exact hxn)]
          intro H7 r7 k7
          exact ⟨rfl, h6.go r7 k7 (by show q + 1 ≤ g.length; omega) (by show q ≤ q + 1; omega)⟩
      | false =>
        refine if_false_of rfl ?_
        have et : (g.drop q).takeWhile PatUtf.inName = [] := by
          cases e : g[q]? with
          | none => rw [drop_none e]; rfl
          | some x =>
            rw [isAt_some e, at_name] at ea
            rw [drop_cons e, List.takeWhile_cons, ea]
            rfl
        rw [et] at hl
        have hl' : ((g.drop st.p).takeWhile PatUtf.inName).length = q - st.p := hl
        have hql : q ≤ g.length := h6.rd.2.2.1
        rw [name_rest hd hs hpq hql hl'] at hQ
        refine ⟨_, rfl, a, dx, _, rfl, h6.rd.1, rF_no (by decide +kernel), ?_⟩
        refine need_use h6.rd (fun c1 => ?_) (fun c1 => ?_)
        · have c1' : q = g.length := c1
          rw [if_pos c1'] at hQ
          exact hQ
        · have c1' : q < g.length := c1
          rw [if_neg (by omega)] at hQ
          refine ⟨_, rfl, a, dx, _, rfl, h6.rd.1, rF_no (by decide +kernel), _, rfl, ?_⟩
          refine keep_use h6 (by show st.p ≤ q; omega) ?_
          cases ek : keepStep g { st with p := q, b := g.drop q } st.p with
          | error e => rw [ek] at hQ; exact hQ
          | ok st' =>
            rw [ek] at hQ
            dsimp only at hQ
            have est : st'.p = q ∧ st'.frs = st.frs := by
              unfold keepStep at ek
              split at ek
              · cases ek
              · cases ek; exact ⟨rfl, rfl⟩
            intro H7 ts7 ks7 M7 F7 h7 s7
            refine ⟨_, rfl, a, dx, _, rfl, h7.rd.1, rF_no (by decide +kernel), ?_⟩
            refine take_use h7.rd ?_
            rw [est.1]
            have hx : g[q]? = some g[q] := List.getElem?_eq_getElem c1'
            rw [hx] at hQ
            dsimp only at hQ
            by_cases c3 : g[q] = 32
            · rw [if_neg (fun x => x c3)] at hQ
              rw [takeE_yes hx (by rw [c3]; decide +kernel)]
              intro H8 r8 k8
              exact hQ H8 ts7 ks7 M7 F7 (h7.go r8 k8 (by omega) (by rw [est.1]; omega)) s7
            · rw [if_pos c3] at hQ
              rw [takeE_no hx (by rw [at_sign (n := 32) (by decide +kernel)]; exact decide_eq_false c3)]
              exact hQ
end
end Pat
end

section
namespace Pat
open PySem PySem.Spec PyProof.Rows L2
open PySem.FaultX (FaultTxt)
open PatUtf (Fault)
open PatWords (Pat repP timesP partsP oneP atomP valueP Name)
open Mach (Fr)
open Ways (WF FwdW FitsW FitAll oneWF seqsWF altsWF repWF capWF)
theorem partsP_drop {g : List UInt8} : ∀ (f : Nat) (s : Bool) (acc : List (Nat × Nat)) (p : Nat) {l : List (Nat × Nat)} {r : List UInt8} {q : Nat}, partsP f s acc p (g.drop p) = .ok (l, r, q) → r = g.drop q ∧ q ≤ g.length
  | 0, s, acc, p, l, r, q, h => by
    rw [partsP] at h
    cases h
  | f + 1, s, acc, p, l, r, q, h => by
    by_cases c93 : g[p]? = some 93
    · have := lt_of_some c93
      rw [drop_cons c93, partsP] at h
      dsimp only at h
      rw [if_pos rfl] at h
      split at h
      · cases h; exact ⟨rfl, by omega⟩
      · cases h
    · have pp := parts_part (f := f) (s := s) (acc := acc) (g := g) (p := p) (fun c hc e => c93 (by rw [hc, e]))
      cases ep : partE g p with
      | error e =>
        rw [ep] at pp
        dsimp only at pp
        rw [pp] at h
        cases h
      | ok y =>
        obtain ⟨l0, q1⟩ := y
        rw [ep] at pp
        obtain ⟨l', _, pp⟩ := pp
        rw [pp] at h
        exact partsP_drop f true (acc ++ l') q1 h
theorem atom1_facts {g : List UInt8} {p q : Nat} {c : UInt8} {a : Pat} {ns : List (Nat × Name)} {s : List UInt8} (hc : g[p]? = some c) (h1 : c ≠ 40) (h2 : c ≠ 60) (h : atomP 1 0 [] p (g.drop p) = .ok (a, ns, s, q)) : a.size = 1 ∧ s = g.drop q ∧ q ≤ g.length := by
  have hlt := lt_of_some hc
  rw [drop_cons hc, atomP.eq_def 1] at h
  simp only [h1, h2, if_false] at h
  split at h; · cases h; exact ⟨rfl, rfl, by omega⟩
  split at h; · cases h; exact ⟨rfl, rfl, by omega⟩
  split at h; · cases h; exact ⟨rfl, rfl, by omega⟩
  split at h
  · cases hd : g[p + 1]? with
    | none => rw [drop_none hd] at h; cases h
    | some d =>
      have := lt_of_some hd
      rw [drop_cons hd] at h
      dsimp only at h
      split at h; · cases h; exact ⟨rfl, rfl, by omega⟩
      split at h; · cases h; exact ⟨rfl, rfl, by omega⟩
      split at h
      · cases h; exact ⟨rfl, rfl, by omega⟩
      · cases h
  split at h
  · cases hd : g[p + 1]? with
    | none => rw [drop_none hd] at h; cases h
    | some d =>
      rw [drop_cons hd] at h
      dsimp only at h
      split at h
      · rw [show p + 1 + 1 = p + 2 from rfl] at h
        cases e : partsP ((c :: d :: g.drop (p + 2)).length + 1) false [] (p + 2) (g.drop (p + 2)) with
        | error x => rw [e] at h; cases h
        | ok y =>
          obtain ⟨l, r, q'⟩ := y
          rw [e] at h
          cases h
          exact ⟨rfl, partsP_drop _ _ _ _ e⟩
      · rw [← drop_cons hd] at h
        cases e : partsP ((c :: g.drop (p + 1)).length + 1) false [] (p + 1) (g.drop (p + 1)) with
        | error x => rw [e] at h; cases h
        | ok y =>
          obtain ⟨l, r, q'⟩ := y
          rw [e] at h
          cases h
          exact ⟨rfl, partsP_drop _ _ _ _ e⟩
  split at h
  · cases h
  · rw [← drop_cons hc] at h
    cases e : valueP p (g.drop p) with
    | error x => rw [e] at h; cases h
    | ok y =>
      obtain ⟨v, r, q'⟩ := y
      rw [e] at h
      cases h
      obtain ⟨_, h3, h4⟩ := valueP_drop e
      exact ⟨rfl, h4, h3⟩
theorem nameP_drop {g : List UInt8} {ns : List (Nat × Name)} {p q : Nat} {n : Name} {s : List UInt8} (h : Mach.nameP ns p (g.drop p) = .ok (n, s, q)) : s = g.drop q := by
  unfold Mach.nameP at h
  cases hd : g[p]? with
  | none => rw [drop_none hd] at h; cases h
  | some d =>
    rw [drop_cons hd] at h
    dsimp only at h
    rw [← drop_cons hd] at h
    split at h; · cases h
    split at h; · cases h
    split at h; · cases h
    rw [List.drop_drop] at h
    cases he : g[p + ((g.drop p).takeWhile PatUtf.inName).length]? with
    | none => rw [drop_none he] at h; cases h
    | some e =>
      rw [drop_cons he] at h
      dsimp only at h
      split at h
      · cases h
      · cases h
        rw [show p + 1 + ((g.drop p).takeWhile PatUtf.inName).length = p + ((g.drop p).takeWhile PatUtf.inName).length + 1 by omega]
def openStep (g : List UInt8) (st : Mach.St) (frs : List Fr) (c : UInt8) : Except Fault Mach.St := if PatWords.OPENED ≤ frs.length then .error ⟨5, st.p⟩ else
  if c = 40 then .ok ⟨st.p + 1, g.drop (st.p + 1), st.ns, Mach.fresh [41] none :: st.frs⟩ else match Mach.nameP st.ns (st.p + 1) (g.drop (st.p + 1)) with
    | .error e => .error e
    | .ok (n, _, q) => .ok ⟨q, g.drop q, st.ns ++ [(st.p + 1, n)], Mach.fresh [62] (some n) :: st.frs⟩
section
variable {P : Program} {w : World} {K : PySem.W.Frag} {mg : Str → Option Value} {base : Heap} {C CB CF fI : Addr} {cs : Cs} {H H1 H2 H3 H4 : Hp} {a dx ag an ab : Addr} {g : List UInt8} {ts : List Addr} {ks : List Bk} {M : PM} {F0 : Hp} {st : Mach.St} {Q : VK} {E : XK}
theorem at_open (c : UInt8) : (cds "(<").contains c.toNat = (decide (c = 40) || decide (c = 60)) :=
  beq_iff_eq.mp (u8_all (p := fun c => (cds "(<").contains c.toNat == (decide (c = 40) || decide (c = 60))) (by decide +kernel) c)
theorem at_shut (c : UInt8) : (cds ")>").contains c.toNat = (decide (c = 41) || decide (c = 62)) :=
  beq_iff_eq.mp (u8_all (p := fun c => (cds ")>").contains c.toNat == (decide (c = 41) || decide (c = 62))) (by decide +kernel) c)
theorem at_rep (c : UInt8) : (cds "*+?{").contains c.toNat = Mach.isRep c :=
  beq_iff_eq.mp (u8_all (p := fun c => (cds "*+?{").contains c.toNat == Mach.isRep c) (by decide +kernel) c)
/-- Bracket(closing, number) -/
theorem binit_use {b dxb : Addr} {z : Str} {num : V} (hb : H b = some (.ins CB dxb [])) (r : ∀ H' ar al, BAt CB H' b dxb z num ar 0 none → H ar = none → H al = none → ar ≠ al → H' ar = some (.lst [.ref al]) → H' al = some (.lst []) → Kept H H' b → Q .non H') : spBInit CB [.ref b, .str z, num] H Q E := by
  unfold spBInit
  exact ⟨b, dxb, z, num, rfl, hb, r⟩
/-- a bracket is opened -/
theorem RS.opened (h : RS K C CB cs H a dx ag an ab g ts ks M F0 st) (hne : st.frs ≠ []) {x dxx ar al : Addr} {z : Str} {num : V} {fr : Fr} (hx : H x = none) (har : H ar = none) (hal : H al = none) (hxa : x ≠ ar) (hxl : x ≠ al) (hal2 : ar ≠ al) (s : Same H H1)
    (hb : BAt CB H1 x dxx z num ar 0 none) (h1 : H1 ar = some (.lst [.ref al])) (h2 : H1 al = some (.lst [])) (ez : fclose fr = z) (e1 : fr.rows = []) (e2 : fr.items = []) (e3 : fr.last = false) (hn : nameV (nmsOf st) num fr.name) (hc : fr.close.length ≤ 1) (hfl : st.frs.length < 41) (hpl : st.frs.length < st.p + 1) :
    RS K C CB cs (upd H1 ab (.lst ((ks.map Bk.b).reverse.map V.ref ++ [V.ref x]))) a dx ag an ab g ts (⟨x, dxx, ar, num, [(al, [])]⟩ :: ks) M F0 { st with frs := fr :: st.frs } := by
  have h1' := h.same s
  have fresh : ∀ y ∈ (⟨x, dxx, ar, num, [(al, [])]⟩ : Bk).foot, H y = none := fun y m => by
    have m : y ∈ [x, ar, al] := m
    simp only [List.mem_cons, List.not_mem_nil, or_false] at m
    rcases m with e | e | e
    · rw [e]; exact hx
    · rw [e]; exact har
    · rw [e]; exact hal
  have e5 : (ks.map Bk.b).reverse.map V.ref ++ [V.ref x] = ((((⟨x, dxx, ar, num, [(al, [])]⟩ : Bk) :: ks).map Bk.b).reverse.map V.ref) := by
    rw [List.map_cons, List.reverse_cons, List.map_append]
    rfl
  rw [e5]
  have es : fsize fr = 0 := by
    unfold fsize
    rw [e1, e2]
    rfl
  have el : flast fr = none := by
    unfold flast
    rw [e3]
    rfl
  refine h1'.pile (frs' := fr :: st.frs) ⟨?_, h1'.sk⟩ hfl hpl ?_ ?_ ?_
  · exact {
      at_ := by rw [ez, es, el]; exact hb
      arl := h1
      rws := fun r m => by rw [List.mem_singleton.mp m]; exact h2
      fit := ⟨[], by rw [e2]; exact ⟨trivial, trivial⟩, e1⟩
      num := hn
      last := fun e => by rw [e3] at e; cases e
      clo := hc
      out := fun e => by
        cases e6 : st.frs with
        | nil => exact absurd e6 hne
        | cons _ _ => rw [e6] at e; cases e
      rlen := by show 1 ≤ _; omega
      ilen := fun r m => by rw [List.mem_singleton.mp m]; exact Nat.zero_le _ }
  · intro y m m2
    rw [foots_cons] at m2
    rcases List.mem_append.mp m2 with m2 | m2
    · exact (h.mut y (List.mem_append_left _ m)).1 (fresh y m2)
    · exact h.n2 y m m2
  · refine ⟨?_, fun y m m2 => ?_, h.n3⟩
    · show [x, ar, al].Nodup
      simp [hxa, hxl, hal2]
    · exact Stk.there h.sk y m2 (fresh y m)
  · intro y m
    rw [foots_cons] at m
    rcases List.mem_append.mp m with m | m
    · exact none_same h.fz (fresh y m)
    · exact h.fm y (List.mem_append_right _ m)
/-! ### take_opening -/
@[irreducible] def spOpen (K : PySem.W.Frag) (C CB CF : Addr) (cs : Cs) : Sp := fun vs H Q E => ∃ (a dx ag an ab : Addr) (g : List UInt8) (ts : List Addr) (ks : List Bk) (M : PM) (F : Hp) (st : Mach.St) (fr : Fr) (frs : List Fr) (c : UInt8), vs = [.ref a] ∧ RS K C CB cs H a dx ag an ab g ts ks M F st ∧ st.frs = fr :: frs ∧
  g[st.p]? = some c ∧ (c = 40 ∨ c = 60) ∧ StepRet K C CB CF cs a dx ag an ab g F Q E (openStep g st frs c)
theorem open_use {fr : Fr} {frs : List Fr} {c : UInt8} (h : RS K C CB cs H a dx ag an ab g ts ks M F0 st) (hf : st.frs = fr :: frs) (hc : g[st.p]? = some c) (ho : c = 40 ∨ c = 60) (r : StepRet K C CB CF cs a dx ag an ab g F0 Q E (openStep g st frs c)) : spOpen K C CB CF cs [.ref a] H Q E := by
  unfold spOpen
  exact ⟨a, dx, ag, an, ab, g, ts, ks, M, F0, st, fr, frs, c, rfl, h, hf, hc, ho, r⟩
theorem nameP_up {g : List UInt8} {ns : List (Nat × Name)} {p q : Nat} {n : Name} {s : List UInt8} (h : Mach.nameP ns p (g.drop p) = .ok (n, s, q)) : p < q := by
  unfold Mach.nameP at h
  cases hd : g[p]? with
  | none => rw [drop_none hd] at h; cases h
  | some d =>
    rw [drop_cons hd] at h
    dsimp only at h
    split at h; · cases h
    split at h; · cases h
    split at h; · cases h
    split at h
    · cases h
    · split at h
      · cases h
      · cases h; omega
theorem scOpen : FnScope ["self"] ["self"] (defScope (sR 17)) := ⟨rfl, rfl, rfl, by decide +kernel, rfl, by decide +kernel, by decide +kernel⟩
theorem ok_open {f : Addr} {fd : FuncData} (F : Fun K "take_opening" "Reader.take_opening" (sR 17) f fd) (T : Txt K mg C CF fI) (k40 : ∃ t, mg "MOST_OPEN" = some (.int 40 t)) (k5 : ∃ t, mg "TOO_MANY_OPEN" = some (.int 5 t))
    (NB : NOk P w K mg base CB 1 "Bracket" ["self", "closing", "number"] (spBInit CB))
    (M1 : MOk P w K mg base (L2N.CX P w) C 3 "take" ["self", "signs"] (spTake K C CF)) (M2 : MOk P w K mg base (L2N.CX P w) C 4 "take_name" ["self"] (spName K C CB CF cs)) :
    FnOk P w K mg base (L2N.CX P w) 5 f fd ["self"] (spOpen K C CB CF cs) := by
  obtain ⟨f1, fd1, m1, b1, G1⟩ := M1
  obtain ⟨f2, fd2, m2, b2, G2⟩ := M2
  obtain ⟨fB, fdB, MB, gB, bB, GB⟩ := NB
  refine F.okN scOpen (fun vs H Q E h => ?_) (fun cdv A outer s H vs Q E hr h => ⟨_, pss_cons (ps_if (pt_cmpR op_eq (pe_op op_sub (pe_callB call_len_seq (by rfl) T.len PySem.boot_len (pa_cons (pe_fld (pv 0) rfl) pa_nil)) pe_int) (pe_gi k40) (nomark _))
        (pss_one (ps_raiseFault rfl T.ft hr (L2N.takes_of rfl rfl rfl rfl) (by exact (pa_cons (pe_gi k5) (pa_cons (pe_fld (pv 0) rfl) pa_nil))))) pss_nil)
      (pss_cons (ps_if (pt_cmpR op_eq (pe_meth (pv 0) T.cl m1 G1 (hr.mono (by decide)) b1 .nil (L2N.passes_call (L2N.takes_of rfl rfl rfl rfl) (fun _ _ _ _ h => h)) (by exact (pa_cons pe_str pa_nil))) pe_str (nomark _))
        (pss_cons (ps_expr (pe_bm PySem.F.plainAttrs_list PySem.F.slot_list_append PySem.F.type_list_append mt_append (pe_fld (pv 0) rfl) (by exact (pa_cons (pe_make MB GB (hr.mono (by decide)) rfl gB bB .nil pass0 (by exact (pa_cons pe_str (pa_cons pe_non pa_nil)))) pa_nil)))) (pss_one ps_retN)) pss_nil)
      (pss_cons (ps_expr (pe_meth0 (pv 0) T.cl m2 G2 hr b2 .nil (L2N.passes_call (L2N.takes_of rfl rfl rfl rfl) (fun _ _ _ _ h => h))))
      (pss_one (ps_expr (pe_bm PySem.F.plainAttrs_list PySem.F.slot_list_append PySem.F.type_list_append mt_append (pe_fld (pv 0) rfl) (by exact (pa_cons (pe_make MB GB (hr.mono (by decide)) rfl gB bB .nil pass0 (by exact (pa_cons pe_str (pa_cons (pe_op op_sub (pe_callB call_len_seq (by rfl) T.len PySem.boot_len (pa_cons (pe_fld (pv 0) rfl) pa_nil)) pe_int) pa_nil)))) pa_nil))))))), ?_⟩)
  · unfold spOpen at h
    obtain ⟨_, _, _, _, _, _, _, _, _, _, _, _, _, _, rfl, _⟩ := h
    rfl
  unfold spOpen at h
  obtain ⟨a, dx, ag, an, ab, g, ts, ks, M, F0, st, fr, frs, c, rfl, h, hf, hc, ho, hQ⟩ := h
  have hlt := lt_of_some hc
  have hbl := Stk.len h.sk
  have hfl := h.flen
  have hpl := h.plen
  rw [hf, List.length_cons] at hbl hfl hpl
  have hbl2 : ((((ks.map Bk.b).reverse.map V.ref).length : Nat) : Int) = (frs.length : Int) + 1 := by
    rw [List.length_map, List.length_reverse, List.length_map, hbl]
    rfl
  unfold openStep at hQ
  refine ⟨_, rfl, a, C, dx, _, _, rfl, h.rd.1, T.cl, T.nB, rF_brackets, ab, _, rfl, .inl (SqL.of h.bl), _, _, rfl, rfl, rfl, _, rfl, ?_⟩
  rw [hbl2]
  by_cases c40 : frs.length = 40
  · rw [if_pos (by unfold PatWords.OPENED; omega)] at hQ
    have hQ' : Out CF ⟨5, st.p⟩ E := hQ
    refine if_true_of ?_ ⟨_, rfl, a, C, dx, _, _, rfl, h.rd.1, T.cl, T.nP, rF_place, _, _, rfl, fun d hd => hQ' d _ upd_same⟩
    rw [c40]
    rfl
  · rw [if_neg (by unfold PatWords.OPENED; omega)] at hQ
    refine if_false_of (decide_eq_false fun e => c40 ?_) ?_
    · injection e with e
      omega
    refine ⟨_, rfl, a, dx, _, rfl, h.rd.1, rF_no (by decide +kernel), ?_⟩
    refine take_use h.rd ?_
    rw [takeE_yes hc (by rw [at_open]; rcases ho with e | e <;> subst e <;> rfl)]
    intro H1 r1 k1
    have h1 := h.go r1 k1 (by omega) (Nat.le_succ _)
    -- the new bracket
    have tail : ∀ (z : Str) (num : V) (fr' : Fr) (H3 : Hp) (ts3 : List Addr) (ks3 : List Bk) (M3 : PM) (F3 : Hp) (st3 : Mach.St) (W : Hp → Prop), RS K C CB cs H3 a dx ag an ab g ts3 ks3 M3 F3 st3 → Same F0 F3 → st3.frs = st.frs → st.p < st3.p → fclose fr' = z → fr'.rows = [] → fr'.items = [] → fr'.last = false → nameV (nmsOf st3) num fr'.name → fr'.close.length ≤ 1 →
        (∀ H' ts' ks' M' F', RS K C CB cs H' a dx ag an ab g ts' ks' M' F' { st3 with frs := fr' :: st.frs } → Same F0 F' → W H') →
        ∀ x dxx, H3 x = none → H3 dxx = none → dxx ≠ x → spBInit CB [.ref x, .str z, num] (upd (upd H3 dxx (.own x)) x (.ins CB dxx [])) (fun v H2 => v = .non ∧ ∃ l xs y, V.ref ab = V.ref l ∧ [V.ref x] = [y] ∧ H2 l = some (.lst xs) ∧ xs.length < sizeLine ∧ W (upd H2 l (.lst (xs ++ [y])))) E0 := by
      intro z num fr' H3 ts3 ks3 M3 F3 st3 W h3 sF3 ef hp3 ez e1 e2 e3 hn hc3 hQ3 x dxx hx hdx hne
      refine binit_use upd_same fun H4 ar al hb4 har hal hra h4r h4l k4 => ⟨rfl, ?_⟩
      have s4 := made_same hx hdx k4
      have hxr : x ≠ ar := fun e => by rw [← e, upd_same] at har; cases har
      have hxl : x ≠ al := fun e => by rw [← e, upd_same] at hal; cases hal
      have none3 : ∀ y, upd (upd H3 dxx (.own x)) x (.ins CB dxx []) y = none → y ≠ x → H3 y = none := fun y e n => by
        rw [upd_ne n] at e
        by_cases ed : y = dxx
        · rw [ed, upd_same] at e
          cases e
        · rw [upd_ne ed] at e
          exact e
      have hbl3 := Stk.len h3.sk
      rw [ef, hf, List.length_cons] at hbl3
      refine ⟨ab, _, _, rfl, rfl, s4 _ _ h3.bl, ?_, ?_⟩
      · rw [List.length_map, List.length_reverse, List.length_map, hbl3]
        exact small1000 (by omega)
      · have hop := h3.opened (by rw [ef, hf]; exact List.cons_ne_nil _ _) (fr := fr') hx (none3 ar har hxr.symm) (none3 al hal hxl.symm) hxr hxl hra s4 hb4 h4r h4l ez e1 e2 e3 hn hc3 (by rw [ef, hf, List.length_cons]; omega) (by rw [ef, hf, List.length_cons]; omega)
        rw [ef] at hop
        exact hQ3 _ _ _ _ _ hop sF3
    rcases ho with e | e
    · subst e
      rw [if_pos rfl] at hQ
      refine ⟨rfl, _, rfl, if_true_of (by decide +kernel) ?_⟩
      refine ⟨_, rfl, a, C, dx, _, _, rfl, h1.rd.1, T.cl, T.nB, rF_brackets, .inl ⟨rfl, _, SqL.of h1.bl⟩, ?_⟩
      exact tail ")" .non (Mach.fresh [41] none) H1 ts ks M F0 _ (fun H' => Q .non H') h1 (fun _ _ h => h) rfl (Nat.lt_succ_self _) (by decide +kernel) rfl rfl rfl rfl (by decide) hQ
    · subst e
      rw [if_neg (by decide)] at hQ
      refine ⟨rfl, _, rfl, if_false_of (by decide +kernel) ?_⟩
      refine ⟨_, rfl, a, dx, _, rfl, h1.rd.1, rF_no (by decide +kernel), ?_⟩
      refine name_use h1 ?_
      unfold nameStep
      dsimp only
      cases en : Mach.nameP st.ns (st.p + 1) (g.drop (st.p + 1)) with
      | error x => rw [en] at hQ; exact hQ
      | ok y =>
        obtain ⟨n, s, q⟩ := y
        have hup := nameP_up en
        rw [en] at hQ
        intro H2 ts2 ks2 M2 F2 h2 sF2
        refine ⟨_, rfl, a, C, dx, _, _, rfl, h2.rd.1, T.cl, T.nB, rF_brackets, .inl ⟨rfl, _, SqL.of h2.bl⟩, ?_⟩
        refine ⟨_, rfl, a, C, dx, _, _, rfl, h2.rd.1, T.cl, T.nN, rF_names, an, _, rfl, .inl (SqL.of h2.nl), _, _, rfl, rfl, ?_⟩
        have etl : ((((ts2.map V.ref).length : Nat) : Int) - 1) = ((st.ns.length : Nat) : Int) := by
          rw [List.length_map, Nms.len h2.nm]
          show (((st.ns ++ [(st.p + 1, n)]).length : Nat) : Int) - 1 = _
          rw [List.length_append, List.length_singleton]
          push_cast
          omega
        refine tail ">" (.int ((((ts2.map V.ref).length : Nat) : Int) - 1)) (Mach.fresh [62] (some n)) H2 ts2 ks2 M2 F2 _ (fun H' => Q .non H') h2 sF2 rfl (by show st.p < q; omega) (by show (⟨(([62] : List UInt8).map (·.toNat)).toArray⟩ : Str) = ">"; decide +kernel) rfl rfl rfl ⟨st.ns.length, congrArg V.int etl, ?_⟩ (Nat.le_refl 1) hQ
        show ((st.ns ++ [(st.p + 1, n)]).map (·.2))[st.ns.length]? = some n
        rw [List.map_append, List.getElem?_append_right (by rw [List.length_map]; exact Nat.le_refl _), List.length_map, Nat.sub_self]
        rfl
end
end Pat
end

section
namespace Pat
open PySem PySem.Spec PyProof.Rows L2
open PySem.FaultX (FaultTxt)
open PatUtf (Fault)
open PatWords (Pat repP timesP partsP oneP atomP valueP Name)
open Mach (Fr)
open Ways (WF FwdW FitsW FitAll oneWF seqsWF altsWF repWF capWF)
section
variable {P : Program} {w : World} {K : PySem.W.Frag} {mg : Str → Option Value} {base : Heap} {C CB CF fI : Addr} {cs : Cs} {H H1 : Hp} {a dx ag an ab : Addr} {g : List UInt8} {ts : List Addr} {ks : List Bk} {M : PM} {F0 : Hp} {st : Mach.St} {Q : VK} {E : XK}
/-! ### take_next -/
@[irreducible] def spNext (K : PySem.W.Frag) (C CB CF : Addr) (cs : Cs) : Sp := fun vs H Q E => ∃ (a dx ag an ab : Addr) (g : List UInt8) (ts : List Addr) (ks : List Bk) (M : PM) (F : Hp) (st : Mach.St) (fr : Fr) (frs : List Fr) (c : UInt8), vs = [.ref a] ∧ RS K C CB cs H a dx ag an ab g ts ks M F st ∧ st.frs = fr :: frs ∧
  g[st.p]? = some c ∧ StepRet K C CB CF cs a dx ag an ab g F Q E (Mach.stepC st.p st.ns fr frs c (g.drop (st.p + 1)))
theorem next_use {fr : Fr} {frs : List Fr} {c : UInt8} (h : RS K C CB cs H a dx ag an ab g ts ks M F0 st) (hf : st.frs = fr :: frs) (hc : g[st.p]? = some c) (r : StepRet K C CB CF cs a dx ag an ab g F0 Q E (Mach.stepC st.p st.ns fr frs c (g.drop (st.p + 1)))) : spNext K C CB CF cs [.ref a] H Q E := by
  unfold spNext
  exact ⟨a, dx, ag, an, ab, g, ts, ks, M, F0, st, fr, frs, c, rfl, h, hf, hc, r⟩
theorem step_open {g : List UInt8} {st : Mach.St} {fr : Fr} {frs : List Fr} {c : UInt8} (hf : st.frs = fr :: frs) (h : c = 40 ∨ c = 60) : Mach.stepC st.p st.ns fr frs c (g.drop (st.p + 1)) = openStep g st frs c := by
  unfold Mach.stepC openStep
  rw [hf]
  rcases h with e | e
  · subst e
    rw [if_neg (by decide), if_pos rfl, if_pos rfl]
  · subst e
    rw [if_neg (by decide), if_neg (by decide), if_pos rfl]
    by_cases c1 : PatWords.OPENED ≤ frs.length
    · rw [if_pos c1, if_pos c1]
    · rw [if_neg c1, if_neg c1, if_neg (by decide)]
      cases e : Mach.nameP st.ns (st.p + 1) (g.drop (st.p + 1)) with
      | error x => rfl
      | ok y =>
        obtain ⟨n, s, q⟩ := y
        rw [nameP_drop e]
theorem step_close {g : List UInt8} {st : Mach.St} {fr : Fr} {frs : List Fr} {c : UInt8} (h : c = 41 ∨ c = 62) : Mach.stepC st.p st.ns fr frs c (g.drop (st.p + 1)) = closeStep st g fr frs c := by
  unfold Mach.stepC closeStep
  rcases h with e | e <;> subst e <;> rfl
theorem step_rep {g : List UInt8} {st : Mach.St} {fr : Fr} {frs : List Fr} {c : UInt8} (hc : g[st.p]? = some c) (h : Mach.isRep c = true) : Mach.stepC st.p st.ns fr frs c (g.drop (st.p + 1)) = repStep g st fr frs := by
  obtain ⟨n1, n2, n3, n4, n5⟩ := Mach.isRep_ne h
  unfold Mach.stepC repStep
  rw [drop_cons hc]
  simp only [n1, n2, n3, n4, n5, h, if_false, if_true, or_self]
  all_goals rfl
/-- a row is ended -/
theorem RS.barred {k : Bk} {fr : Fr} {frs : List Fr} (h : RS K C CB cs H a dx ag an ab g ts (k :: ks) M F0 st) (hf : st.frs = fr :: frs) {al : Addr} (hal : H al = none) (h1 : H1 al = some (.lst [])) (h2 : H1 k.ar = some (.lst ((k.rows.map fun r : Addr × List Addr => V.ref r.1) ++ [V.ref al])))
    (hb : BAt CB H1 k.b k.dx (fclose fr) k.num k.ar ((fsize fr : Nat) : Int) none) (hk : KeptL H H1 [k.b, k.ar]) (hlen : k.rows.length + 1 ≤ st.p + 1) :
    RS K C CB cs H1 a dx ag an ab g ts ({ k with rows := k.rows ++ [(al, [])] } :: ks) M F0 { st with frs := fr.bar :: frs } := by
  have sk := h.sk
  rw [hf] at sk
  obtain ⟨hbr, hs⟩ := sk
  have hnd := h.n3.1
  have hfoot : ({ k with rows := k.rows ++ [(al, [])] } : Bk).foot = k.foot ++ [al] := by
    unfold Bk.foot
    rw [List.map_append]
    rfl
  have haf : al ∉ k.foot := fun m => hbr.there al m hal
  have kf : KeptL H H1 k.foot := fun y o e n => hk y o e fun m => n (by
    rcases List.mem_cons.mp m with m | m
    · rw [m]; exact List.mem_cons_self ..
    · rw [List.mem_singleton.mp m]; exact List.mem_cons_of_mem _ (List.mem_cons_self ..))
  obtain ⟨rss, hfit, hrows⟩ := hbr.fit
  refine RS.top h hf (k1 := { k with rows := k.rows ++ [(al, [])] }) kf rfl ?_ ?_ ?_
  · exact {
      at_ := by rw [bar_size, bar_last]; exact hb
      arl := by
        show H1 k.ar = some (.lst ((k.rows ++ [(al, [])]).map fun r : Addr × List Addr => V.ref r.1))
        rw [h2, List.map_append]
        rfl
      rws := fun r m => by
        rcases List.mem_append.mp m with m | m
        · have h1 := hbr.rws r m
          refine hk _ _ h1 ?_
          have hm : r.1 ∈ k.rows.map (·.1) := List.mem_map.mpr ⟨r, m, rfl⟩
          obtain ⟨n1, n2⟩ := List.nodup_cons.mp hnd
          obtain ⟨n3, n4⟩ := List.nodup_cons.mp n2
          have e1 : r.1 ≠ k.b := fun e => n1 (by rw [← e]; exact List.mem_cons_of_mem _ hm)
          have e2 : r.1 ≠ k.ar := fun e => n3 (by rw [← e]; exact hm)
          simp [e1, e2]
        · rw [List.mem_singleton.mp m]
          exact h1
      fit := ⟨rss ++ [fr.items], RowsFit.snoc (bs := []) (ps := []) trivial hfit, by
        show fr.rows ++ [Mach.seqs fr.items] = _
        rw [hrows, List.map_append]
        rfl⟩
      num := hbr.num
      last := fun e => nomatch e
      clo := hbr.clo
      out := hbr.out
      rlen := by
        show (k.rows ++ [(al, [])]).length ≤ st.p + 1
        rw [List.length_append]
        exact hlen
      ilen := fun r m => by
        rcases List.mem_append.mp m with m | m
        · exact hbr.ilen r m
        · rw [List.mem_singleton.mp m]
          exact Nat.zero_le _ }
  · rw [hfoot]
    exact List.nodup_append.mpr ⟨hnd, by simp, fun x m y m2 e => haf (by rw [← List.mem_singleton.mp m2, ← e]; exact m)⟩
  · intro x m
    rw [hfoot] at m
    rcases List.mem_append.mp m with m | m
    · exact .inl m
    · rw [List.mem_singleton.mp m]
      exact .inr hal
/-- an atom that was made is frozen, and put behind the others -/
theorem RS.atom (h : RS K C CB cs H a dx ag an ab g ts ks M F0 st) {v : V} {atm : Atm} {x : Pat} {D : Nat} (hn : AtmNew K cs H H1 v atm) (hx : AtmFits atm x) (hk : Kept H H1 a) {q : Nat} (r : RAt C H1 a dx ag q an ab) (hq : q ≤ g.length) (hpq : st.p ≤ q) (hD : 1 ≤ D) :
    ∃ b M1 F1, v = .ref b ∧ RS K C CB cs H1 a dx ag an ab g ts ks M1 F1 { st with p := q, b := g.drop q } ∧ Same F0 F1 ∧ Fits M1 b x D := by
  have h1 := h.go r hk hq hpq
  have mut' : ∀ y ∈ [a, an, ab] ++ foots ks, ∀ S : List Addr, (∀ z ∈ S, H z = none) → frz F0 H1 S y = none := fun y m S hS => by
    obtain ⟨e1, e2⟩ := h.mut y m
    exact frz_out (h.fm y m) (fun m2 => e1 (hS y m2)) (h1.mut y m).2
  cases atm with
  | one l neg =>
    obtain ⟨b, dxb, ar, rg, ra, rfl, hb, har, hb1, hrg⟩ := hn
    have hFb : F0 b = none := none_same h.fz hb
    have hst : Stat (nmsOf st) M ⟨dxb, .one ar l neg, 1, oneWF l neg⟩ := rfl
    have hW := h.wd.grow h1.fz hFb (S := [b, ar]) (dx := dxb) (rg := rg) (ra := ra) (kd := .one ar l neg) (d := 1) (wf := oneWF l neg) hb1 (by simp) (frz_rg h1.fz (by simp) hrg) hst (Ways.fwd_one l neg)
    refine ⟨b, _, frz F0 H1 [b, ar], rfl, h1.grow (h.wd.le hFb) hW same_frz (frz_same h1.fz) (fun y m => mut' y m [b, ar] (fun z mz => ?_)), same_frz, _, addM_same, hD, hx⟩
    rcases List.mem_cons.mp mz with e | mz
    · rw [e]; exact hb
    · rw [List.mem_singleton.mp mz]; exact har
  | stand z =>
    obtain ⟨b, dxb, rg, ra, rfl, hb, hb1⟩ := hn
    have hFb : F0 b = none := none_same h.fz hb
    have hst : Stat (nmsOf st) M ⟨dxb, .stand z, 1, standW z⟩ := ⟨hx.1, rfl⟩
    have hfw : FwdW (standW z) := fun t i hi y hy => by
      have key : ∀ c : Prop, [Decidable c] → y ∈ (if c then [(i, ([] : PatWords.Caps))] else []) → i ≤ y.1 ∧ y.1 ≤ t.length := fun c _ m => by
        split at m
        · rw [List.mem_singleton.mp m]
          exact ⟨Nat.le_refl _, hi⟩
        · cases m
      unfold standW at hy
      split at hy
      · exact key _ hy
      · split at hy
        · exact key _ hy
        · exact key _ hy
    have hW := h.wd.grow h1.fz hFb (S := [b]) (dx := dxb) (rg := rg) (ra := ra) (kd := .stand z) (d := 1) (wf := standW z) hb1 (by simp) trivial hst hfw
    refine ⟨b, _, frz F0 H1 [b], rfl, h1.grow (h.wd.le hFb) hW same_frz (frz_same h1.fz) (fun y m => mut' y m [b] (fun z mz => by rw [List.mem_singleton.mp mz]; exact hb)), same_frz, _, addM_same, hD, hx.2⟩
theorem scNext : FnScope ["self"] ["self"] (defScope (sR 19)) := ⟨rfl, rfl, rfl, by decide +kernel, rfl, by decide +kernel, by decide +kernel⟩
theorem at_bar (c : UInt8) : (cds "|").contains c.toNat = decide (c = 124) := at_sign (by decide +kernel) c
theorem atom1_up {g : List UInt8} {p q : Nat} {c : UInt8} {a : Pat} {ns : List (Nat × Name)} {s : List UInt8} (hc : g[p]? = some c) (h : atomP 1 0 [] p (g.drop p) = .ok (a, ns, s, q)) (h1 : c ≠ 40) (h2 : c ≠ 60) (hs : s = g.drop q) (hq : q ≤ g.length) : p < q := by
  rw [drop_cons hc] at h
  have hl := Mach.atom1_len h1 h2 h
  rw [← drop_cons hc] at hl
  dsimp only at hl
  rw [hs, List.length_drop, List.length_drop] at hl
  omega
theorem ok_next {f : Addr} {fd : FuncData} (F : Fun K "take_next" "Reader.take_next" (sR 19) f fd) (T : Txt K mg C CF fI) (TB : TxB K CB)
    (M1 : MOk P w K mg base CX0 C 2 "at" ["self", "signs"] (spAt K C)) (M2 : MOk P w K mg base (L2N.CX P w) C 3 "take" ["self", "signs"] (spTake K C CF))
    (M3 : MOk P w K mg base CX0 CB 1 "end_row" ["self"] (spBEnd CB)) (M4 : MOk P w K mg base (L2N.CX P w) C 5 "take_opening" ["self"] (spOpen K C CB CF cs))
    (M5 : MOk P w K mg base (L2N.CX P w) C 5 "take_closing" ["self"] (spClose K C CB CF cs)) (M6 : MOk P w K mg base (L2N.CX P w) C 7 "take_repetition" ["self"] (spRepS K C CB CF cs))
    (M7 : MOk P w K mg base (L2N.CX P w) C 8 "take_single_atom" ["self"] (spSingle K C CF cs)) (M8 : MOk P w K mg base CX0 CB 1 "add_atom" ["self", "part", "atoms"] (spBAdd CB)) :
    FnOk P w K mg base (L2N.CX P w) 9 f fd ["self"] (spNext K C CB CF cs) := by
  obtain ⟨f1, fd1, m1, b1, G1⟩ := M1
  obtain ⟨f2, fd2, m2, b2, G2⟩ := M2
  obtain ⟨f3, fd3, m3, b3, G3⟩ := M3
  obtain ⟨f4, fd4, m4, b4, G4⟩ := M4
  obtain ⟨f5, fd5, m5, b5, G5⟩ := M5
  obtain ⟨f6, fd6, m6, b6, G6⟩ := M6
  obtain ⟨f7, fd7, m7, b7, G7⟩ := M7
  obtain ⟨f8, fd8, m8, b8, G8⟩ := M8
  refine F.okN scNext (fun vs H Q E h => ?_) (fun cdv A outer s H vs Q E hr h => ⟨_, pss_one (ps_if (pt_val (pe_meth (pv 0) T.cl m1 G1 (hr.mono (by decide)) b1 .nil pass0 (pa_cons pe_str pa_nil)))
      (pss_cons (ps_expr (pe_meth (pv 0) T.cl m2 G2 (hr.mono (by decide)) b2 .nil (L2N.passes_call (L2N.takes_of rfl rfl rfl rfl) (fun _ _ _ _ h => h)) (by exact (pa_cons pe_str pa_nil))))
        (pss_one (ps_expr (pe_meth0 (pe_ix ix_list (pe_fld (pv 0) rfl) (pe_un un_neg pe_int) (fun _ _ => rfl)) TB.cl m3 G3 (hr.mono (by decide)) b3 .nil pass0))))
      (pss_one (ps_if (pt_val (pe_meth (pv 0) T.cl m1 G1 (hr.mono (by decide)) b1 .nil pass0 (pa_cons pe_str pa_nil)))
        (pss_one (ps_expr (pe_meth0 (pv 0) T.cl m4 G4 (hr.mono (by decide)) b4 .nil (L2N.passes_call (L2N.takes_of rfl rfl rfl rfl) (fun _ _ _ _ h => h)))))
        (pss_one (ps_if (pt_val (pe_meth (pv 0) T.cl m1 G1 (hr.mono (by decide)) b1 .nil pass0 (pa_cons pe_str pa_nil)))
          (pss_one (ps_expr (pe_meth0 (pv 0) T.cl m5 G5 (hr.mono (by decide)) b5 .nil (L2N.passes_call (L2N.takes_of rfl rfl rfl rfl) (fun _ _ _ _ h => h)))))
          (pss_one (ps_if (pt_val (pe_meth (pv 0) T.cl m1 G1 (hr.mono (by decide)) b1 .nil pass0 (pa_cons pe_str pa_nil)))
            (pss_one (ps_expr (pe_meth0 (pv 0) T.cl m6 G6 (hr.mono (by decide)) b6 .nil (L2N.passes_call (L2N.takes_of rfl rfl rfl rfl) (fun _ _ _ _ h => h)))))
            (pss_one (ps_expr (pe_meth (pe_ix ix_list (pe_fld (pv 0) rfl) (pe_un un_neg pe_int) (fun _ _ => rfl)) TB.cl m8 G8 (hr.mono (by decide)) b8 .nil pass0 (by exact (pa_cons (pe_meth0 (pv 0) T.cl m7 G7 hr b7 .nil (L2N.passes_call (L2N.takes_of rfl rfl rfl rfl) (fun _ _ _ _ h => h))) (pa_cons pe_int pa_nil))))))))))))), ?_⟩)
  · unfold spNext at h
    obtain ⟨_, _, _, _, _, _, _, _, _, _, _, _, _, _, rfl, _⟩ := h
    rfl
  unfold spNext at h
  obtain ⟨a, dx, ag, an, ab, g, ts, ks, M, F0, st, fr, frs, c, rfl, h, hf, hc, hQ⟩ := h
  have hlt := lt_of_some hc
  have hg128 := h.g128
  refine ⟨_, rfl, a, dx, _, rfl, h.rd.1, rF_no (by decide +kernel), ?_⟩
  refine at_use h.rd (by decide +kernel) fun H1 s1 => ?_
  have h1 := h.same s1
  refine ⟨_, rfl, ?_⟩
  rw [isAt_some hc, at_bar]
  by_cases c1 : c = 124
  · refine if_true_of (decide_eq_true c1) ?_
    subst c1
    refine ⟨_, rfl, a, dx, _, rfl, h1.rd.1, rF_no (by decide +kernel), ?_⟩
    refine take_use h1.rd ?_
    rw [takeE_yes hc (by decide +kernel)]
    intro H2 r2 k2
    have h2 := h1.go r2 k2 (by omega) (Nat.le_succ _)
    have sk1 := h1.sk
    have sk2 := h2.sk
    have hf2 : ({ st with p := st.p + 1, b := g.drop (st.p + 1) } : Mach.St).frs = fr :: frs := hf
    rw [hf2] at sk2
    rw [hf] at sk1
    cases ks with
    | nil => exact sk2.elim
    | cons k ks =>
      obtain ⟨hbr, hs⟩ := sk2
      have hrl := sk1.1.rlen
      refine ⟨_, rfl, a, C, dx, _, _, rfl, h2.rd.1, T.cl, T.nB, rF_brackets, _, rfl, ab, _, _, _, rfl, rfl, h2.lastB, atI_last _ _, k.b, k.dx, _, rfl, hbr.at_, bF_no (by decide +kernel), ?_⟩
      refine bend_use hbr.at_ hbr.arl (by rw [List.length_map]; omega) fun H3 al hb3 hal hal3 har3 k3 => ?_
      have hQ' : ∀ H' ts' ks' M' F', RS K C CB cs H' a dx ag an ab g ts' ks' M' F' ⟨st.p + 1, g.drop (st.p + 1), st.ns, fr.bar :: frs⟩ → Same F0 F' → Q .non H' := hQ
      exact hQ' H3 ts _ M F0 (RS.barred h2 hf2 hal hal3 har3 hb3 k3 (by show k.rows.length + 1 ≤ st.p + 1 + 1; omega)) (fun _ _ h => h)
  refine if_false_of (decide_eq_false c1) ?_
  refine ⟨_, rfl, a, dx, _, rfl, h1.rd.1, rF_no (by decide +kernel), ?_⟩
  refine at_use h1.rd (by decide +kernel) fun H2 s2 => ?_
  have h2 := h1.same s2
  refine ⟨_, rfl, ?_⟩
  rw [isAt_some hc, at_open]
  by_cases c2 : c = 40 ∨ c = 60
  · refine if_true_of (by simpa using c2) ?_
    refine ⟨_, rfl, a, dx, _, rfl, h2.rd.1, rF_no (by decide +kernel), ?_⟩
    rw [step_open hf c2] at hQ
    exact open_use h2 hf hc c2 hQ
  refine if_false_of (by simpa using c2) ?_
  refine ⟨_, rfl, a, dx, _, rfl, h2.rd.1, rF_no (by decide +kernel), ?_⟩
  refine at_use h2.rd (by decide +kernel) fun H3 s3 => ?_
  have h3 := h2.same s3
  refine ⟨_, rfl, ?_⟩
  rw [isAt_some hc, at_shut]
  by_cases c3 : c = 41 ∨ c = 62
  · refine if_true_of (by simpa using c3) ?_
    refine ⟨_, rfl, a, dx, _, rfl, h3.rd.1, rF_no (by decide +kernel), ?_⟩
    rw [step_close c3] at hQ
    exact close_use h3 hf hc hQ
  refine if_false_of (by simpa using c3) ?_
  refine ⟨_, rfl, a, dx, _, rfl, h3.rd.1, rF_no (by decide +kernel), ?_⟩
  refine at_use h3.rd (by decide +kernel) fun H4 s4 => ?_
  have h4 := h3.same s4
  refine ⟨_, rfl, ?_⟩
  rw [isAt_some hc, at_rep]
  cases c4 : Mach.isRep c with
  | true =>
    refine if_true_of rfl ?_
    refine ⟨_, rfl, a, dx, _, rfl, h4.rd.1, rF_no (by decide +kernel), ?_⟩
    rw [step_rep hc c4] at hQ
    exact repS_use h4 hf hc c4 hQ
  | false =>
    refine if_false_of rfl ?_
    have n40 : c ≠ 40 := fun e => c2 (.inl e)
    have n60 : c ≠ 60 := fun e => c2 (.inr e)
    have hst : Mach.stepC st.p st.ns fr frs c (g.drop (st.p + 1)) = match atomP 1 0 [] st.p (g.drop st.p) with
        | .error e => .error e
        | .ok (x, _, s, q) => .ok ⟨q, s, st.ns, fr.push x :: frs⟩ := by
      unfold Mach.stepC
      rw [if_neg c1, if_neg n40, if_neg n60, if_neg c3, c4, if_neg Bool.false_ne_true, drop_cons hc]
      all_goals (cases atomP 1 0 [] st.p (c :: g.drop (st.p + 1)) <;> rfl)
    rw [hst] at hQ
    have sk4 := h4.sk
    rw [hf] at sk4
    cases ks with
    | nil => exact sk4.elim
    | cons k ks =>
      obtain ⟨hbr4, hs4⟩ := sk4
      refine ⟨_, rfl, a, C, dx, _, _, rfl, h4.rd.1, T.cl, T.nB, rF_brackets, _, rfl, ab, _, _, _, rfl, rfl, h4.lastB, atI_last _ _, k.b, k.dx, _, rfl, hbr4.at_, bF_no (by decide +kernel), ?_⟩
      refine ⟨_, rfl, a, dx, _, rfl, h4.rd.1, rF_no (by decide +kernel), ?_⟩
      refine single_use h4.rd hc n40 n60 ?_
      unfold singW
      cases ea : atomP 1 0 [] st.p (g.drop st.p) with
      | error e => rw [ea] at hQ; exact hQ
      | ok y =>
        obtain ⟨x, ns0, s, q⟩ := y
        obtain ⟨hx1, hxs, hxq⟩ := atom1_facts hc n40 n60 ea
        have hup := atom1_up hc ea n40 n60 hxs hxq
        subst hxs
        rw [ea] at hQ
        intro H5 v atm r5 k5 hn5 hfx
        have hpl := h4.plen
        rw [hf, List.length_cons] at hpl
        obtain ⟨bx, M5, F5, rfl, h5, sF5, hfit5⟩ := h4.atom (D := 3 * (q - frs.length) / 2) hn5 hfx k5 r5 hxq (Nat.le_of_lt hup) (by omega)
        have sk5 := h5.sk
        have hf5 : ({ st with p := q, b := g.drop q } : Mach.St).frs = fr :: frs := hf
        rw [hf5] at sk5
        obtain ⟨hbr5, hs5⟩ := sk5
        obtain ⟨rs, al, bs, rss5, er5, hfr5, hfi5, hrows5, har5, hal5, hbl5⟩ := hbr5.cur
        have hbl0 : bs.length ≤ st.p := hbr4.ilen (al, bs) (by rw [er5]; simp)
        refine badd_use hbr5.at_ har5 hal5 (by rw [List.length_map]; omega) fun H6 hb6 hal6 k6 => ?_
        have hQ' : ∀ H' ts' ks' M' F', RS K C CB cs H' a dx ag an ab g ts' ks' M' F' ⟨q, g.drop q, st.ns, fr.push x :: frs⟩ → Same F0 F' → Q .non H' := hQ
        refine hQ' H6 ts _ M5 F5 (RS.push h5 hf5 er5 (pt := x) hfit5 ?_ hal6 k6 (by show bs.length + 1 ≤ q; omega)) sF5
        rw [hx1]
        exact hb6
end
end Pat
end

section
namespace Pat
open PySem PySem.Spec PyProof.Rows L2
open PySem.FaultX (FaultTxt)
open PatUtf (Fault)
open PatWords (Pat repP timesP partsP oneP atomP valueP Name)
open Mach (Fr)
open Ways (WF FwdW FitsW FitAll oneWF seqsWF altsWF repWF capWF)
theorem step_ne {p : Nat} {ns : List (Nat × Name)} {fr : Fr} {frs : List Fr} {c : UInt8} {r : List UInt8} {st : Mach.St} (h : Mach.stepC p ns fr frs c r = .ok st) : st.frs ≠ [] := by
  unfold Mach.stepC at h
  split at h; · cases h; exact fun e => nomatch e
  split at h
  · split at h
    · cases h
    · cases h; exact fun e => nomatch e
  split at h
  · split at h
    · cases h
    · split at h
      · cases h
      · cases h; exact fun e => nomatch e
  split at h
  · split at h
    · cases frs with
      | nil => cases h
      | cons gg gs => cases h; exact fun e => nomatch e
    · cases h
  split at h
  · split at h
    · split at h
      · cases h
      · cases h; exact fun e => nomatch e
    · cases h
  · split at h
    · cases h
    · cases h; exact fun e => nomatch e
/-- the three objects that a pattern is to who asks for it: the parts M with what's frozen F -/
structure PatAt (K : PySem.W.Frag) (cs : Cs) (CP : Addr) (H : Hp) (pp dxp an b : Addr) (ts : List Addr) (M : PM) (F : Hp) (pt : Pat) (ns : List (Nat × Name)) (g : List UInt8) : Prop where
  at_ : H pp = some (.ins CP dxp [("names", .ref an), ("body", .ref b)])
  nl : H an = some (.lst (ts.map V.ref))
  nm : Nms K H ts ns
  wd : Wd K cs M F (ns.map (·.2))
  fz : Same F H
  fit : Fits M b pt 195
  nmd : (ns.map (·.2)).Nodup
  fp : F pp = none
  fn : F an = none
  ok : ∀ x ∈ ns, NmOk g x
  nlen : ns.length ≤ 16
section
variable {P : Program} {w : World} {K : PySem.W.Frag} {mg : Str → Option Value} {base : Heap} {C CB CF CP fI : Addr} {cs : Cs} {H : Hp} {a dx ag an ab : Addr} {g : List UInt8} {ts : List Addr} {ks : List Bk} {M : PM} {F0 : Hp} {st : Mach.St} {Q : VK} {E : XK}
/-! ### Pattern(names, body) -/
structure TxP (K : PySem.W.Frag) (CP : Addr) : Prop where
  cl : Cls K CP
  n1 : NoAttr K CP "names"
  n2 : NoAttr K CP "body"
@[irreducible] def spPInit (CP : Addr) : Sp := fun vs H Q _ => ∃ (pp dxp an b : Addr), vs = [.ref pp, .ref an, .ref b] ∧ H pp = some (.ins CP dxp []) ∧ ∀ H', H' pp = some (.ins CP dxp [("names", .ref an), ("body", .ref b)]) → Kept H H' pp → Q .non H'
theorem scPI2 : FnScope ["self", "names", "body"] ["self", "names", "body"] (defScope (inClass (top i_Pattern) 0)) := ⟨rfl, rfl, rfl, by decide +kernel, rfl, by decide +kernel, by decide +kernel⟩
theorem ok_pinit {f : Addr} {fd : FuncData} (F : Fun K "__init__" "Pattern.__init__" (inClass (top i_Pattern) 0) f fd) (T : TxP K CP) : FnOk P w K mg base CX0 1 f fd ["self", "names", "body"] (spPInit CP) := by
  refine F.ok scPI2 (fun vs H Q E h => ?_) (fun cdv A outer s H vs Q E hr h => ⟨_, pss_cons (ps_fld (pv 0) (pv 1) rfl) (pss_one (ps_fld (pv 0) (pv 2) rfl)), ?_⟩)
  · unfold spPInit at h
    obtain ⟨_, _, _, _, rfl, _⟩ := h
    rfl
  unfold spPInit at h
  obtain ⟨pp, dxp, an, b, rfl, hp, hQ⟩ := h
  refine ⟨_, rfl, _, rfl, pp, CP, dxp, _, rfl, hp, T.cl, T.n1, by show 0 < 1000; decide, ?_⟩
  refine ⟨_, rfl, _, rfl, pp, CP, dxp, _, rfl, upd_same, T.cl, T.n2, by show 1 < 1000; decide, ?_⟩
  refine hQ _ (upd_same.trans ?_) (Kept.upd.trans Kept.upd)
  rw [nf1 (by decide +kernel)]
/-! ### made_pattern -/
@[irreducible] def spFin (K : PySem.W.Frag) (C CB CF CP : Addr) (cs : Cs) : Sp := fun vs H Q E => ∃ (a dx ag an ab : Addr) (g : List UInt8) (ts : List Addr) (ks : List Bk) (M : PM) (F : Hp) (st : Mach.St), vs = [.ref a] ∧ RS K C CB cs H a dx ag an ab g ts ks M F st ∧ st.frs ≠ [] ∧
  match Mach.finish st with
  | .error e => Out CF e E
  | .ok (pt, ns) => ∀ H' pp dxp an b ts M' F', PatAt K cs CP H' pp dxp an b ts M' F' pt ns g → Same F F' → Q (.ref pp) H'
theorem fin_use (h : RS K C CB cs H a dx ag an ab g ts ks M F0 st) (hne : st.frs ≠ []) (r : match Mach.finish st with
    | .error e => Out CF e E
    | .ok (pt, ns) => ∀ H' pp dxp an b ts M' F', PatAt K cs CP H' pp dxp an b ts M' F' pt ns g → Same F0 F' → Q (.ref pp) H') : spFin K C CB CF CP cs [.ref a] H Q E := by
  unfold spFin
  exact ⟨a, dx, ag, an, ab, g, ts, ks, M, F0, st, rfl, h, hne, r⟩
theorem scFin : FnScope ["self"] ["self"] (defScope (sR 20)) := ⟨rfl, rfl, rfl, by decide +kernel, rfl, by decide +kernel, by decide +kernel⟩
theorem ok_fin {f : Addr} {fd : FuncData} (F : Fun K "made_pattern" "Reader.made_pattern" (sR 20) f fd) (T : Txt K mg C CF fI) (TB : TxB K CB) (k200 : ∃ t, mg "MOST_ATOMS" = some (.int 200 t)) (k7 : ∃ t, mg "TOO_MANY_ATOMS" = some (.int 7 t))
    (NP : NOk P w K mg base CP 1 "Pattern" ["self", "names", "body"] (spPInit CP)) (M3 : MOk P w K mg base CX0 CB 4 "made_part" ["self"] (spMade K CB cs)) :
    FnOk P w K mg base (L2N.CX P w) 5 f fd ["self"] (spFin K C CB CF CP cs) := by
  obtain ⟨fP, fdP, MP, gP, bP, GP⟩ := NP
  obtain ⟨f3, fd3, m3, b3, G3⟩ := M3
  refine F.okN scFin (fun vs H Q E h => ?_) (fun cdv A outer s H vs Q E hr h => ⟨_, pss_cons (ps_if (pt_cmpR op_gt (pe_callB call_len_seq (by rfl) T.len PySem.boot_len (pa_cons (pe_fld (pv 0) rfl) pa_nil)) pe_int (nomark _))
        (pss_one (ps_raiseFault rfl T.ft hr (L2N.takes_of rfl rfl rfl rfl) (by exact (pa_cons (pe_gi T.k1) (pa_cons (pe_fld (pv 0) rfl) pa_nil))))) pss_nil)
      (pss_cons (ps_if (pt_cmpR op_gt (pe_fld (pe_ix ix_list (pe_fld (pv 0) rfl) pe_int (fun _ _ => rfl)) rfl) (pe_gi k200) (nomark _))
        (pss_one (ps_raiseFault rfl T.ft hr (L2N.takes_of rfl rfl rfl rfl) (by exact (pa_cons (pe_gi k7) (pa_cons pe_int pa_nil))))) pss_nil)
      (pss_one (ps_ret (pe_make MP GP (hr.mono (by decide)) rfl gP bP .nil pass0 (by exact (pa_cons (pe_fld (pv 0) rfl) (pa_cons (pe_meth0 (pe_ix ix_list (pe_fld (pv 0) rfl) pe_int (fun _ _ => rfl)) TB.cl m3 G3 hr b3 .nil pass0) pa_nil))))))), ?_⟩)
  · unfold spFin at h
    obtain ⟨_, _, _, _, _, _, _, _, _, _, _, rfl, _⟩ := h
    rfl
  unfold spFin at h
  obtain ⟨a, dx, ag, an, ab, g, ts, ks, M, F0, st, rfl, h, hne, hQ⟩ := h
  have hbl := Stk.len h.sk
  refine ⟨_, rfl, a, C, dx, _, _, rfl, h.rd.1, T.cl, T.nB, rF_brackets, ab, _, rfl, .inl (SqL.of h.bl), _, _, rfl, rfl, _, rfl, ?_⟩
  rw [List.length_map, List.length_reverse, List.length_map, hbl]
  have sk := h.sk
  cases hf : st.frs with
  | nil => exact absurd hf hne
  | cons fr frs =>
    rw [hf] at sk hbl
    cases frs with
    | cons f2 fs =>
      have e : Mach.finish st = .error ⟨1, st.p⟩ := by unfold Mach.finish; rw [hf]
      rw [e] at hQ
      have hQ' : Out CF ⟨1, st.p⟩ E := hQ
      exact if_true_of (decide_eq_true (by show (1 : Int) < ((fs.length + 1 + 1 : Nat) : Int); omega)) ⟨_, rfl, a, C, dx, _, _, rfl, h.rd.1, T.cl, T.nP, rF_place, _, _, rfl, fun d hd => hQ' d _ upd_same⟩
    | nil =>
      have e : Mach.finish st = if PatWords.ATOMS < fr.pat.size then .error ⟨7, 0⟩ else .ok (fr.pat, st.ns) := by unfold Mach.finish; rw [hf]
      rw [e, pat_size] at hQ
      refine if_false_of rfl ?_
      cases ks with
      | nil => exact sk.elim
      | cons k ks =>
        obtain ⟨hbr, hs⟩ := sk
        cases ks with
        | cons b2 bs => exact hs.elim
        | nil =>
          have hbl1 : H ab = some (.lst [V.ref k.b]) := h.bl
          refine ⟨_, rfl, a, C, dx, _, _, rfl, h.rd.1, T.cl, T.nB, rF_brackets, ab, _, _, _, rfl, rfl, SqL.of hbl1, atI_nat (j := 0) rfl, k.b, CB, k.dx, _, _, rfl, hbr.at_, TB.cl, TB.nA, bF_atoms, _, _, rfl, rfl, _, rfl, ?_⟩
          by_cases c : PatWords.ATOMS < fsize fr
          · rw [if_pos c] at hQ
            have hQ' : Out CF ⟨7, 0⟩ E := hQ
            refine if_true_of (decide_eq_true ?_) ⟨_, _, rfl, fun d hd => hQ' d _ upd_same⟩
            unfold PatWords.ATOMS at c
            omega
          · rw [if_neg c] at hQ
            refine if_false_of (decide_eq_false ?_) ?_
            · unfold PatWords.ATOMS at c
              omega
            refine ⟨_, rfl, a, C, dx, _, _, rfl, h.rd.1, T.cl, T.nN, rF_names, ?_⟩
            refine ⟨_, rfl, a, C, dx, _, _, rfl, h.rd.1, T.cl, T.nB, rF_brackets, ab, _, _, _, rfl, rfl, SqL.of hbl1, atI_nat (j := 0) rfl, k.b, k.dx, _, rfl, hbr.at_, bF_no (by decide +kernel), ?_⟩
            obtain ⟨rss, hfit, hrows⟩ := hbr.fit
            have hg128 := h.g128
            have hpl := h.rd.2.2.1
            have hrne : k.rows ≠ [] := fun e => by
              rw [e] at hfit
              have := hfit.len
              rw [List.length_append] at this
              simp at this
            refine made_use hbr hrne (by omega) hfit h.wd h.fz hrows ?_
            intro H3 M1 F1 x s3 sF3 sFH3 hM3 hW3 hg3 hx3
            have hnone : ∀ y ∈ [a, an, ab], F1 y = none := fun y m => by
              cases e : F1 y with
              | none => rfl
              | some o =>
                have m' : y ∈ [a, an, ab] ++ foots [k] := List.mem_append_left _ m
                obtain ⟨h1, h2⟩ := h.mut y m'
                rcases hg3 y (by rw [e]; exact fun h => nomatch h) with z | z | z | z
                · exact absurd (h.fm y m') z
                · exact absurd z h1
                · exact absurd (List.mem_append_left _ (List.mem_cons_of_mem _ (List.mem_cons_of_mem _ z)) : y ∈ k.foot ++ []) (h.n2 y m)
                · rw [h2] at z; cases z
            intro pp dxp hpp hdx hnd
            have eat : fr.atom = fr.pat := by
              unfold Mach.Fr.atom
              rw [(hbr.out rfl).2]
            rw [eat] at hx3
            unfold spPInit
            refine ⟨pp, dxp, an, x, rfl, upd_same, fun H4 hp4 k4 => ⟨rfl, ?_⟩⟩
            have s4 := made_same hpp hdx k4
            refine hQ H4 pp dxp an x ts M1 F1 ?_ sF3
            exact {
              at_ := hp4
              nl := s4 _ _ (s3 _ _ h.nl)
              nm := Nms.map (fun t xs e => sqt_same e (Same.trans s3 s4)) h.nm
              wd := hW3
              fz := Same.trans sFH3 s4
              fit := hx3.mono (fun _ _ h => h) (by show 3 * (st.p - 0) / 2 + 3 ≤ 195; omega)
              nmd := h.nmd
              fp := none_same sFH3 hpp
              fn := hnone an (by simp)
              ok := h.ok
              nlen := h.nlen }
/-! ### Reader(given) -/
@[irreducible] def spRInit (K : PySem.W.Frag) (C CB : Addr) (cs : Cs) : Sp := fun vs H Q _ => ∃ (a dx ag : Addr) (g : List UInt8) (F : Hp), vs = [.ref a, .ref ag] ∧ H a = some (.ins C dx []) ∧ Same F H ∧ F a = none ∧ SqL K F ag (gv g) ∧ g.length ≤ 128 ∧
  ∀ H' an ab k M, RS K C CB cs H' a dx ag an ab g [] [k] M F (Mach.start g) → Q .non H'
theorem rinit_use (ha : H a = some (.ins C dx [])) (sF : Same F0 H) (fa : F0 a = none) (sq : SqL K F0 ag (gv g)) (hl : g.length ≤ 128) (r : ∀ H' an ab k M, RS K C CB cs H' a dx ag an ab g [] [k] M F0 (Mach.start g) → Q .non H') : spRInit K C CB cs [.ref a, .ref ag] H Q E := by
  unfold spRInit
  exact ⟨a, dx, ag, g, F0, rfl, ha, sF, fa, sq, hl, r⟩
theorem scRI0 : FnScope ["self", "given"] ["self", "given"] (defScope (sR 0)) := ⟨rfl, rfl, rfl, by decide +kernel, rfl, by decide +kernel, by decide +kernel⟩
theorem rF_new {ag an ab : Addr} : putF "brackets" (.ref ab) (putF "names" (.ref an) (putF "place" (.int 0) (putF "given" (.ref ag) []))) = rF ag 0 an ab := by
  have e1 : putF "place" (.int 0) (putF "given" (.ref ag) []) = [(("given" : Str), V.ref ag), (("place" : Str), V.int 0)] := (put_past (by decide +kernel)).trans rfl
  have e2 : putF "names" (.ref an) [(("given" : Str), V.ref ag), (("place" : Str), V.int 0)] = [(("given" : Str), V.ref ag), (("place" : Str), V.int 0), (("names" : Str), V.ref an)] := (put_past (by decide +kernel)).trans (congrArg _ ((put_past (by decide +kernel)).trans rfl))
  rw [e1, e2]
  exact (put_past (by decide +kernel)).trans (congrArg _ ((put_past (by decide +kernel)).trans (congrArg _ ((put_past (by decide +kernel)).trans rfl))))
theorem ok_rinit {f : Addr} {fd : FuncData} (F : Fun K "__init__" "Reader.__init__" (sR 0) f fd) (T : Txt K mg C CF fI) (NB : NOk P w K mg base CB 1 "Bracket" ["self", "closing", "number"] (spBInit CB)) :
    FnOk P w K mg base CX0 3 f fd ["self", "given"] (spRInit K C CB cs) := by
  obtain ⟨fB, fdB, MB, gB, bB, GB⟩ := NB
  refine F.ok scRI0 (fun vs H Q E h => ?_) (fun cdv A outer s H vs Q E hr h => ⟨_, pss_cons (ps_fld (pv 0) (pv 1) rfl) (pss_cons (ps_fld (pv 0) pe_int rfl) (pss_cons (ps_fld (pv 0) (pe_lst pa_nil) rfl)
      (pss_one (ps_fld (pv 0) (pe_lst (pa_cons (pe_make MB GB hr rfl gB bB .nil pass0 (by exact (pa_cons pe_str (pa_cons pe_non pa_nil)))) pa_nil)) rfl)))), ?_⟩)
  · unfold spRInit at h
    obtain ⟨_, _, _, _, _, rfl, _⟩ := h
    rfl
  unfold spRInit at h
  obtain ⟨a, dx, ag, g, F0, rfl, ha, sF, fa, sq, hl, hQ⟩ := h
  refine ⟨_, rfl, _, rfl, a, C, dx, _, rfl, ha, T.cl, T.nG, by show 0 < 1000; decide, ?_⟩
  refine ⟨_, rfl, a, C, dx, _, rfl, upd_same, T.cl, T.nP, by show 1 < 1000; decide, ?_⟩
  refine ⟨by show 0 ≤ sizeLine; decide, fun an hn => ?_⟩
  rw [upd_upd] at hn
  have hna : an ≠ a := fun e => by rw [e, upd_same] at hn; cases hn
  rw [upd_upd]
  refine ⟨_, rfl, a, C, dx, _, rfl, (upd_ne hna.symm).trans upd_same, T.cl, T.nN, by show 2 < 1000; decide, ?_⟩
  intro x dxx hx hdx hne
  refine binit_use upd_same fun H4 ar al hb4 har hal hra h4r h4l k4 => ⟨rfl, ?_⟩
  have s4 := made_same hx hdx k4
  refine ⟨by show 1 ≤ sizeLine; decide, fun ab hab => ?_⟩
  have ha4 := s4 a _ upd_same
  have han4 : H4 an = some (.lst []) := s4 an _ ((upd_ne hna).trans upd_same)
  have habx : ab ≠ x := (ne_of_none hb4 hab).symm
  have haba : ab ≠ a := (ne_of_none ha4 hab).symm
  have haban : ab ≠ an := (ne_of_none han4 hab).symm
  have habr : ab ≠ ar := (ne_of_none h4r hab).symm
  have habl : ab ≠ al := (ne_of_none h4l hab).symm
  have hxa : x ≠ a := fun e => by rw [e, upd_same] at hx; cases hx
  have hHn : H an = none := by
    rw [upd_ne hna] at hn
    exact hn
  have none0 : ∀ {o1 o2 o3 : HO} (y : Addr), upd (upd (upd H a o1) an o2) a o3 y = none → H y = none ∧ y ≠ a ∧ y ≠ an := fun {o1 o2 o3} y e => by
    have n1 : y ≠ a := fun z => by rw [z, upd_same] at e; cases e
    rw [upd_ne n1] at e
    have n2 : y ≠ an := fun z => by rw [z, upd_same] at e; cases e
    rw [upd_ne n2, upd_ne n1] at e
    exact ⟨e, n1, n2⟩
  have none1 : ∀ {Hx : Hp} (y : Addr), upd (upd Hx dxx (.own x)) x (.ins CB dxx []) y = none → Hx y = none ∧ y ≠ x := fun {Hx} y e => by
    have n1 : y ≠ x := fun z => by rw [z, upd_same] at e; cases e
    rw [upd_ne n1] at e
    have n2 : y ≠ dxx := fun z => by rw [z, upd_same] at e; cases e
    rw [upd_ne n2] at e
    exact ⟨e, n1⟩
  obtain ⟨hx0, hxa', hxan⟩ := none0 x hx
  obtain ⟨hr1, hrx⟩ := none1 ar har
  obtain ⟨hr0, hra', hran⟩ := none0 ar hr1
  obtain ⟨hl1, hlx⟩ := none1 al hal
  obtain ⟨hl0, hla', hlan⟩ := none0 al hl1
  refine ⟨_, rfl, a, C, dx, _, rfl, (upd_ne haba.symm).trans ha4, T.cl, T.nB, by show 3 < 1000; decide, ?_⟩
  -- what was there stands
  have hHx : ∀ q o, H q = some o → q ≠ a → H4 q = some o := fun q o e n => by
    refine s4 q o ?_
    have nan : q ≠ an := ne_of_none e hHn
    rw [upd_ne n, upd_ne nan, upd_ne n]
    exact e
  have hFH : ∀ q o, F0 q = some o → q ≠ a := fun q o e n => by rw [n, fa] at e; cases e
  have sF5 : Same F0 (upd (upd H4 ab (.lst [V.ref x])) a (.ins C dx (putF "brackets" (.ref ab) (putF "names" (.ref an) (putF "place" (.int 0) (putF "given" (.ref ag) [])))))) := fun q o e => by
    have h4 := hHx q o (sF q o e) (hFH q o e)
    rw [upd_ne (hFH q o e), upd_ne (ne_of_none h4 hab)]
    exact h4
  have fnone : ∀ y, H y = none → F0 y = none := fun y e => none_same sF e
  have habH : H ab = none := by
    cases e : H ab with
    | none => rfl
    | some o => rw [hHx ab o e haba] at hab; cases hab
  refine hQ _ an ab ⟨x, dxx, ar, .non, [(al, [])]⟩ (fun _ => none) ?_
  exact {
    rd := ⟨upd_same.trans (congrArg (fun q => some (HO.ins C dx q)) rF_new), sql_same sq sF5, Nat.zero_le _, Nat.le_trans hl (by decide)⟩
    b := rfl
    nl := (upd_ne hna).trans ((upd_ne haban.symm).trans han4)
    nm := trivial
    ok := fun _ m => nomatch m
    bl := (upd_ne haba).trans upd_same
    sk := by
      refine ⟨?_, trivial⟩
      exact {
        at_ := (upd_ne hxa).trans ((upd_ne habx.symm).trans hb4)
        arl := (upd_ne hra').trans ((upd_ne habr.symm).trans h4r)
        rws := fun r m => by
          rw [List.mem_singleton.mp m]
          exact (upd_ne hla').trans ((upd_ne habl.symm).trans h4l)
        fit := ⟨[], ⟨trivial, trivial⟩, rfl⟩
        num := rfl
        last := fun e => nomatch e
        clo := Nat.zero_le _
        out := fun _ => ⟨rfl, rfl⟩
        rlen := Nat.le_refl 1
        ilen := fun r m => by
          rw [List.mem_singleton.mp m]
          exact Nat.zero_le _ }
    wd := ⟨fun _ _ e => (nomatch e), fun _ _ e => (nomatch e), fun _ _ e => (nomatch e)⟩
    fz := sF5
    sq := sq
    n1 := ⟨hna.symm, haba.symm, haban.symm⟩
    n2 := fun y m m2 => by
      have m2 : y ∈ [x, ar, al] := by simpa [foots, Bk.foot] using m2
      simp only [List.mem_cons, List.not_mem_nil, or_false] at m m2
      rcases m with e | e | e <;> rcases m2 with e2 | e2 | e2
      · exact hxa (e2.symm.trans e)
      · exact hra' (e2.symm.trans e)
      · exact hla' (e2.symm.trans e)
      · exact hxan (e2.symm.trans e)
      · exact hran (e2.symm.trans e)
      · exact hlan (e2.symm.trans e)
      · exact habx (e.symm.trans e2)
      · exact habr (e.symm.trans e2)
      · exact habl (e.symm.trans e2)
    n3 := by
      refine ⟨?_, (fun y _ m => by cases m), trivial⟩
      show [x, ar, al].Nodup
      simp [hrx.symm, hlx.symm, hra]
    fm := fun y m => by
      have m : y ∈ [a, an, ab, x, ar, al] := by simpa [foots, Bk.foot] using m
      simp only [List.mem_cons, List.not_mem_nil, or_false] at m
      rcases m with e | e | e | e | e | e
      · rw [e]; exact fa
      · rw [e]; exact fnone _ hHn
      · rw [e]; exact fnone _ habH
      · rw [e]; exact fnone _ hx0
      · rw [e]; exact fnone _ hr0
      · rw [e]; exact fnone _ hl0
    nmd := List.nodup_nil
    nlen := Nat.zero_le _
    flen := by show 1 ≤ 41; decide
    plen := Nat.le_refl 1
    g128 := hl }
/-! ### read_pattern -/
@[irreducible] def spRead (K : PySem.W.Frag) (CF CP : Addr) (cs : Cs) : Sp := fun vs H Q E => ∃ (ag : Addr) (g : List UInt8), vs = [.ref ag] ∧ SqL K H ag (gv g) ∧ g.length ≤ 128 ∧ match PatWords.read g with
  | .error e => Out CF e E
  | .ok (pt, ns) => ∀ H' pp dxp an b ts M' F', PatAt K cs CP H' pp dxp an b ts M' F' pt ns g → Same H F' → Q (.ref pp) H'
theorem read_use (sq : SqL K H ag (gv g)) (hl : g.length ≤ 128) (r : match PatWords.read g with
  | .error e => Out CF e E
  | .ok (pt, ns) => ∀ H' pp dxp an b ts M' F', PatAt K cs CP H' pp dxp an b ts M' F' pt ns g → Same H F' → Q (.ref pp) H') : spRead K CF CP cs [.ref ag] H Q E := by
  unfold spRead
  exact ⟨ag, g, rfl, sq, hl, r⟩
abbrev sRP : Stmt := top i_read_pattern
theorem scRP : FnScope ["given", "reader"] ["given"] (defScope sRP) := ⟨rfl, rfl, rfl, by decide +kernel, rfl, by decide +kernel, by decide +kernel⟩
theorem ok_read {f : Addr} {fd : FuncData} (F : Fun K "read_pattern" "read_pattern" sRP f fd) (T : Txt K mg C CF fI) (NR : NOk P w K mg base C 3 "Reader" ["self", "given"] (spRInit K C CB cs))
    (M1 : MOk P w K mg base (L2N.CX P w) C 9 "take_next" ["self"] (spNext K C CB CF cs)) (M2 : MOk P w K mg base (L2N.CX P w) C 5 "made_pattern" ["self"] (spFin K C CB CF CP cs)) :
    FnOk P w K mg base (L2N.CX P w) 10 f fd ["given"] (spRead K CF CP cs) := by
  obtain ⟨f1, fd1, m1, b1, G1⟩ := M1
  obtain ⟨f2, fd2, m2, b2, G2⟩ := M2
  obtain ⟨fR, fdR, MR, gR, bR, GR⟩ := NR
  refine F.okN scRP (fun vs H Q E h => ?_) (fun cdv A outer s H vs Q E hr h => ⟨_, pss_cons (ps_set (i := 1) scRP.nd rfl (Or.inl rfl) (pe_make MR GR (hr.mono (by decide)) rfl gR bR .nil pass0 (pa_cons (pv 0) pa_nil)))
      (pss_cons (ps_while (passes_of rfl) (pt_cmpR op_lt (pe_fld (pv 1) rfl) (pe_callB call_len_seq (by rfl) T.len PySem.boot_len (pa_cons (pv 0) pa_nil)) (nomark _)) (pss_one (ps_expr (pe_meth0 (pv 1) T.cl m1 G1 hr b1 .nil (L2N.passes_call (L2N.takes_of rfl rfl rfl rfl) (fun _ _ _ _ h => h))))))
      (pss_one (ps_ret (pe_meth0 (pv 1) T.cl m2 G2 (hr.mono (by decide)) b2 .nil (L2N.passes_call (L2N.takes_of rfl rfl rfl rfl) (fun _ _ _ _ h => h)))))), ?_⟩)
  · unfold spRead at h
    obtain ⟨_, _, rfl, _⟩ := h
    rfl
  unfold spRead at h
  obtain ⟨ag, g, rfl, sq, hl, hQ⟩ := h
  refine ⟨_, rfl, fun a dx hx hdx hne => ?_⟩
  have s0 : Same H (upd (upd H dx (.own a)) a (.ins C dx [])) := fun b u e => by
    rw [upd_ne (ne_of_none e hx), upd_ne (ne_of_none e hdx)]
    exact e
  refine rinit_use upd_same s0 hx sq hl fun H1 an ab k0 M0 h1 => ⟨rfl, ?_⟩
  have hgo : Mach.go (Mach.start g) = PatWords.read g := Mach.go_read g
  obtain ⟨RR, hRR⟩ : ∃ RR, PatWords.read g = RR := ⟨_, rfl⟩
  rw [hRR] at hgo hQ
  refine ⟨fun m σ H' => ∃ ts ks M F st, m = g.length - st.p ∧ σ = [some (.ref ag), some (.ref a)] ∧ RS K C CB cs H' a dx ag an ab g ts ks M F st ∧ Same H F ∧ st.frs ≠ [] ∧ Mach.go st = RR, ⟨_, [], [k0], M0, H, Mach.start g, rfl, rfl, h1, fun _ _ h => h, List.cons_ne_nil _ _, hgo⟩, ?_⟩
  rintro m σ H5 ⟨ts, ks, M, F5, st, rfl, rfl, h5, sF5, hne5, hgo5⟩
  refine ⟨_, rfl, a, C, dx, _, _, rfl, h5.rd.1, T.cl, T.nP, rF_place, _, rfl, ag, _, rfl, .inl h5.rd.2.1, _, _, rfl, rfl, _, rfl, ?_⟩
  by_cases c1 : st.p < g.length
  · refine if_true_of (decide_eq_true (by rw [gv_len]; omega)) ?_
    have hc : g[st.p]? = some g[st.p] := List.getElem?_eq_getElem c1
    cases hf : st.frs with
    | nil => exact absurd hf hne5
    | cons fr frs =>
      have est : st = ⟨st.p, g[st.p] :: g.drop (st.p + 1), st.ns, fr :: frs⟩ := by
        have e1 := h5.b
        rw [drop_cons hc] at e1
        cases st
        simp only at hf e1 ⊢
        rw [← hf, ← e1]
      have hstep : Mach.go st = match Mach.stepC st.p st.ns fr frs g[st.p] (g.drop (st.p + 1)) with
          | .error e => .error e
          | .ok st => Mach.go st := (congrArg Mach.go est).trans Mach.go_cons
      rw [hstep] at hgo5
      refine ⟨fun σ' H' => σ' = [some (.ref ag), some (.ref a)] ∧ ∃ ts' ks' M' F' st', RS K C CB cs H' a dx ag an ab g ts' ks' M' F' st' ∧ Same H F' ∧ st'.frs ≠ [] ∧ Mach.go st' = RR ∧ st.p < st'.p, ?_, ?_⟩
      · rintro σ' H' ⟨rfl, ts', ks', M', F', st', h6, sF6, hne6, hgo6, hlt6⟩
        exact ⟨g.length - st'.p, by omega, ts', ks', M', F', st', rfl, rfl, h6, sF6, hne6, hgo6⟩
      · refine ⟨_, rfl, a, dx, _, rfl, h5.rd.1, rF_no (by decide +kernel), ?_⟩
        refine next_use h5 hf hc ?_
        cases es : Mach.stepC st.p st.ns fr frs g[st.p] (g.drop (st.p + 1)) with
        | error e =>
          rw [es] at hgo5
          rw [← hgo5] at hQ
          exact hQ
        | ok st' =>
          rw [es] at hgo5
          intro H6 ts6 ks6 M6 F6 h6 sF6
          have hlen := Mach.stepC_len es
          have e6 := h6.b
          rw [e6, List.length_drop, ← drop_cons hc, List.length_drop] at hlen
          exact ⟨rfl, ts6, ks6, M6, F6, st', h6, Same.trans sF5 sF6, step_ne es, hgo5, by omega⟩
  · refine if_false_of (decide_eq_false (by rw [gv_len]; omega)) ?_
    have hpl : st.p = g.length := by have := h5.rd.2.2.1; omega
    have hb : st.b = [] := by rw [h5.b, hpl, List.drop_length]
    have hfin : Mach.go st = Mach.finish st := by
      obtain ⟨p, b, ns, frs⟩ := st
      dsimp only at hb
      subst hb
      exact Mach.go_nil
    rw [hfin] at hgo5
    refine ⟨_, rfl, a, dx, _, rfl, h5.rd.1, rF_no (by decide +kernel), ?_⟩
    refine fin_use h5 hne5 ?_
    rw [hgo5]
    cases RR with
    | error e => exact hQ
    | ok y =>
      obtain ⟨pt, ns⟩ := y
      exact fun H' pp dxp an b ts M' F' hp sF' => hQ H' pp dxp an b ts M' F' hp (Same.trans sF5 sF')
end
end Pat
end

section
namespace Bits
open PySem
theorem and_half (a b : Nat) : (a &&& b) / 2 = a / 2 &&& b / 2 := Nat.and_div_two
theorem and_low (a b : Nat) : (a &&& b) % 2 = (a % 2) * (b % 2) := by
  have h := Nat.testBit_and a b 0
  simp only [Nat.testBit_zero] at h
  have ha := Nat.mod_two_eq_zero_or_one a
  have hb := Nat.mod_two_eq_zero_or_one b
  have hc := Nat.mod_two_eq_zero_or_one (a &&& b)
  rcases ha with ha | ha <;> rcases hb with hb | hb <;> rcases hc with hc | hc <;> rw [ha, hb, hc] at h ⊢ <;> simp at h ⊢
theorem and_le (a b : Nat) : a &&& b ≤ a := Nat.and_le_left
/-- a without b -/
def sans (a b : Nat) : Nat := a - (a &&& b)
theorem sans_half (a b : Nat) : sans a b / 2 = sans (a / 2) (b / 2) ∧ sans a b % 2 = (a % 2) * (1 - b % 2) := by
  unfold sans
  have h1 := and_half a b
  have h2 := and_low a b
  have h3 := and_le a b
  have h4 := and_le (a / 2) (b / 2)
  have ha := Nat.mod_two_eq_zero_or_one a
  have hb := Nat.mod_two_eq_zero_or_one b
  rcases ha with ha | ha <;> rcases hb with hb | hb <;> rw [ha, hb] at h2 ⊢ <;> simp only [Nat.zero_mul, Nat.mul_zero, Nat.one_mul, Nat.mul_one] at h2 ⊢ <;> omega
theorem sans_bit : ∀ (e a b : Nat), (sans a b).testBit e = (a.testBit e && !b.testBit e)
  | 0, a, b => by
    have h := (sans_half a b).2
    simp only [Nat.testBit_zero]
    rw [h]
    have ha := Nat.mod_two_eq_zero_or_one a
    have hb := Nat.mod_two_eq_zero_or_one b
    rcases ha with ha | ha <;> rcases hb with hb | hb <;> rw [ha, hb] <;> rfl
  | e + 1, a, b => by
    have h := (sans_half a b).1
    rw [Nat.testBit_succ, Nat.testBit_succ, Nat.testBit_succ, h]
    exact sans_bit e _ _
theorem int_sans (a b : Nat) : Builtin.bitAnd (a : Int) (Builtin.bitNot (b : Int)) = ((sans a b : Nat) : Int) := by
  unfold Builtin.bitAnd Builtin.bitNot sans
  have h1 : decide ((0 : Int) ≤ (a : Int)) = true := decide_eq_true (by omega)
  have h2 : decide ((0 : Int) ≤ -(b : Int) - 1) = false := decide_eq_false (by omega)
  have h3 : (-(-(b : Int) - 1) - 1).toNat = b := by omega
  have h4 : ((a : Int)).toNat = a := by omega
  have h5 := and_le a b
  first
    | (rw [h1, h2]; dsimp only; rw [h3, h4]; omega)
    | (simp only [h1, h2, h3, h4]; omega)
/-- the lowest -/
def low (p : Nat) : Nat := (sans p (p - 1)).log2
theorem low_pos : ∀ (p : Nat), 0 < p → 0 < sans p (p - 1) ∧ p.testBit (low p) = true := by
  intro p
  induction p using Nat.strongRecOn with
  | _ p ih =>
    intro hp
    obtain ⟨h1, h2⟩ := sans_half p (p - 1)
    rcases Nat.mod_two_eq_zero_or_one p with h | h
    · have e1 : (p - 1) / 2 = p / 2 - 1 := by omega
      have e2 : (p - 1) % 2 = 1 := by omega
      rw [e1] at h1
      rw [h, e2] at h2
      obtain ⟨h3, h4⟩ := ih (p / 2) (by omega) (by omega)
      have h5 : sans p (p - 1) = 2 * sans (p / 2) (p / 2 - 1) := by omega
      refine ⟨by omega, ?_⟩
      unfold low
      rw [h5, Nat.log2_two_mul (by omega), Nat.testBit_succ]
      exact h4
    · have e1 : (p - 1) / 2 = p / 2 := by omega
      have e2 : (p - 1) % 2 = 0 := by omega
      rw [e1] at h1
      rw [h, e2] at h2
      have h6 : sans (p / 2) (p / 2) = 0 := by unfold sans; rw [Nat.and_self]; omega
      have h5 : sans p (p - 1) = 1 := by omega
      refine ⟨by omega, ?_⟩
      unfold low
      rw [h5]
      have : Nat.log2 1 = 0 := by decide
      rw [this, Nat.testBit_zero, h]
      rfl
theorem int_low {p : Nat} (hp : 0 < p) : Builtin.bitAnd (p : Int) (-(p : Int)) = ((sans p (p - 1) : Nat) : Int) := by
  have e : -(p : Int) = Builtin.bitNot ((p - 1 : Nat) : Int) := by
    unfold Builtin.bitNot
    omega
  rw [e]
  exact int_sans p (p - 1)
theorem int_bits {n : Nat} (hn : 0 < n) : (((Builtin.Int.intBits (n : Int) : Nat) : Int) - 1) = ((n.log2 : Nat) : Int) := by
  unfold Builtin.Int.intBits
  have h : ((n : Int) == 0) = false := by
    cases e : ((n : Int) == 0) with
    | false => rfl
    | true => have := beq_iff_eq.mp e; omega
  rw [h]
  simp only [Bool.false_eq_true, if_false]
  have e2 : (n : Int).natAbs = n := by omega
  rw [e2]
  omega
theorem log2_bit {n : Nat} (hn : 0 < n) : n.testBit n.log2 = true := by
  have h1 := Nat.log2_self_le (n := n) (by omega)
  have h2 := Nat.lt_log2_self (n := n)
  rw [Nat.testBit_eq_decide_div_mod_eq]
  have : n / 2 ^ n.log2 = 1 := by
    refine Nat.div_eq_of_lt_le (by omega) ?_
    rw [Nat.pow_succ] at h2
    omega
  rw [this]
  rfl
theorem log2_top {n e : Nat} (h : n.testBit e = true) : e ≤ n.log2 := by
  refine Nat.not_lt.mp fun c => ?_
  have h2 := Nat.lt_log2_self (n := n)
  have : n < 2 ^ e := Nat.lt_of_lt_of_le h2 (Nat.pow_le_pow_right (by decide) c)
  rw [Nat.testBit_lt_two_pow this] at h
  cases h
theorem int_or (a b : Nat) : Builtin.bitOr (a : Int) (b : Int) = ((a ||| b : Nat) : Int) := by
  rw [L2.bitOr_nn (by omega) (by omega)]
  rfl
theorem int_and (a b : Nat) : Builtin.bitAnd (a : Int) (b : Int) = ((a &&& b : Nat) : Int) := by
  unfold Builtin.bitAnd
  have h1 : decide ((0 : Int) ≤ (a : Int)) = true := decide_eq_true (by omega)
  have h2 : decide ((0 : Int) ≤ (b : Int)) = true := decide_eq_true (by omega)
  first
    | (rw [h1, h2]; rfl)
    | (simp only [h1, h2]; rfl)
theorem int_xor (a b : Nat) : Builtin.bitXor (a : Int) (b : Int) = (((a ||| b) - (a &&& b) : Nat) : Int) := by
  unfold Builtin.bitXor
  rw [int_or, int_and]
  have : a &&& b ≤ a ||| b := Nat.le_trans (and_le a b) Nat.left_le_or
  omega
theorem xor_bit {p k : Nat} (h : p.testBit k = true) : ((p ||| 2 ^ k) - (p &&& 2 ^ k)) = sans p (2 ^ k) := by
  unfold sans
  have e : p ||| 2 ^ k = p := by
    refine Nat.eq_of_testBit_eq fun i => ?_
    rw [Nat.testBit_or, Nat.testBit_two_pow]
    by_cases c : k = i
    · subst c
      rw [h]
      rfl
    · rw [decide_eq_false c, Bool.or_false]
  rw [e]
theorem zero_of {p : Nat} (h : ∀ e, p.testBit e = false) : p = 0 := Nat.eq_of_testBit_eq fun i => by rw [h i, Nat.zero_testBit]
theorem pos_of {p e : Nat} (h : p.testBit e = true) : 0 < p := by
  rcases Nat.eq_zero_or_pos p with c | c
  · rw [c, Nat.zero_testBit] at h
    cases h
  · exact c
end Bits
end

section
namespace Pat
open PySem PySem.Spec PyProof.Rows L2
open Bits (sans low)
/-! ### many places at once -/
abbrev iv (ns : List Nat) : List V := ns.map fun n => V.int (n : Nat)
theorem iv_at {ns : List Nat} {i n : Nat} (h : ns[i]? = some n) : (iv ns)[i]? = some (V.int (n : Nat)) := by rw [List.getElem?_map, h]; rfl
theorem pow_cast (k : Nat) : ((2 : Int) ^ k) = ((2 ^ k : Nat) : Int) := by push_cast; rfl
section
variable {X : Cx}
/-- xs[i] in xs[i] op= e -/
theorem get_list : PGet X (fun o i H Q => ∃ p xs k v, o = .ref p ∧ i = .int (k : Nat) ∧ SqL X.K H p xs ∧ xs[k]? = some v ∧ k ≤ 1000 ∧ Q v H) := by
  intro pins s σ H x y v u Q I rx ry h
  obtain ⟨p, xs, k, z, rfl, rfl, hq, he, hk, q⟩ := h
  cases rx
  obtain ⟨t, rfl⟩ := ry
  obtain ⟨its, r, pl, hz⟩ := I.list hq
  obtain ⟨w, ew, rw'⟩ := r.get he
  exact wpAny_getItem_list pl.isList (by omega) (by omega) (by simpa using ew) ⟨z, H, I, rw', q⟩
end
section
variable {P : Program} {w : World} {K : PySem.W.Frag} {mg : Str → Option Value} {base : Heap} {H : Hp} {Q : VK} {E : XK}
/-! only, has_place, lowest_place, highest_place, without -/
@[irreducible] def spOnly : Sp := fun vs H Q _ => ∃ k : Nat, vs = [.int (k : Nat)] ∧ k ≤ 1000 ∧ Q (.int ((2 ^ k : Nat) : Int)) H
theorem only_use {k : Nat} (hk : k ≤ 1000) (h : Q (.int ((2 ^ k : Nat) : Int)) H) : spOnly [.int (k : Nat)] H Q E := by
  unfold spOnly
  exact ⟨k, rfl, hk, h⟩
theorem scOnly : FnScope ["place"] ["place"] (defScope (top i_only)) := ⟨rfl, rfl, rfl, by decide +kernel, rfl, by decide +kernel, by decide +kernel⟩
theorem ok_only {f : Addr} {fd : FuncData} (F : Fun K "only" "only" (top i_only) f fd) : FnOk P w K mg base CX0 2 f fd ["place"] spOnly := by
  refine F.ok scOnly (fun vs H Q E h => ?_) (fun cdv A outer s H vs Q E hr h => ⟨_, pss_one (ps_ret (pe_op op_oneShl pe_int (pv 0))), ?_⟩)
  · unfold spOnly at h
    obtain ⟨_, rfl, _⟩ := h
    rfl
  unfold spOnly at h
  obtain ⟨k, rfl, hk, hQ⟩ := h
  refine ⟨_, rfl, k, rfl, rfl, by omega, ?_⟩
  rw [pow_cast]
  exact hQ
@[irreducible] def spLow : Sp := fun vs H Q _ => ∃ p : Nat, vs = [.int (p : Nat)] ∧ 0 < p ∧ Q (.int ((low p : Nat) : Int)) H
theorem low_use {p : Nat} (hp : 0 < p) (h : Q (.int ((low p : Nat) : Int)) H) : spLow [.int (p : Nat)] H Q E := by
  unfold spLow
  exact ⟨p, rfl, hp, h⟩
theorem scLow : FnScope ["places"] ["places"] (defScope (top i_lowest_place)) := ⟨rfl, rfl, rfl, by decide +kernel, rfl, by decide +kernel, by decide +kernel⟩
theorem ok_low {f : Addr} {fd : FuncData} (F : Fun K "lowest_place" "lowest_place" (top i_lowest_place) f fd) : FnOk P w K mg base CX0 2 f fd ["places"] spLow := by
  refine F.ok scLow (fun vs H Q E h => ?_) (fun cdv A outer s H vs Q E hr h => ⟨_, pss_one (ps_ret (pe_op op_sub (pe_bits (pe_op op_and (pv 0) (pe_un un_neg (pv 0)))) pe_int)), ?_⟩)
  · unfold spLow at h
    obtain ⟨_, rfl, _⟩ := h
    rfl
  unfold spLow at h
  obtain ⟨p, rfl, hp, hQ⟩ := h
  refine ⟨_, rfl, _, rfl, _, rfl, _, _, rfl, rfl, _, rfl, _, _, rfl, rfl, ?_⟩
  dsimp only
  rw [Bits.int_low hp, Bits.int_bits (Bits.low_pos p hp).1]
  exact hQ
@[irreducible] def spHigh : Sp := fun vs H Q _ => ∃ p : Nat, vs = [.int (p : Nat)] ∧ 0 < p ∧ Q (.int ((p.log2 : Nat) : Int)) H
theorem high_use {p : Nat} (hp : 0 < p) (h : Q (.int ((p.log2 : Nat) : Int)) H) : spHigh [.int (p : Nat)] H Q E := by
  unfold spHigh
  exact ⟨p, rfl, hp, h⟩
theorem scHigh : FnScope ["places"] ["places"] (defScope (top i_highest_place)) := ⟨rfl, rfl, rfl, by decide +kernel, rfl, by decide +kernel, by decide +kernel⟩
theorem ok_high {f : Addr} {fd : FuncData} (F : Fun K "highest_place" "highest_place" (top i_highest_place) f fd) : FnOk P w K mg base CX0 2 f fd ["places"] spHigh := by
  refine F.ok scHigh (fun vs H Q E h => ?_) (fun cdv A outer s H vs Q E hr h => ⟨_, pss_one (ps_ret (pe_op op_sub (pe_bits (pv 0)) pe_int)), ?_⟩)
  · unfold spHigh at h
    obtain ⟨_, rfl, _⟩ := h
    rfl
  unfold spHigh at h
  obtain ⟨p, rfl, hp, hQ⟩ := h
  refine ⟨_, rfl, _, rfl, _, _, rfl, rfl, ?_⟩
  dsimp only
  rw [Bits.int_bits hp]
  exact hQ
@[irreducible] def spSans : Sp := fun vs H Q _ => ∃ a b : Nat, vs = [.int (a : Nat), .int (b : Nat)] ∧ Q (.int ((sans a b : Nat) : Int)) H
theorem sans_use {a b : Nat} (h : Q (.int ((sans a b : Nat) : Int)) H) : spSans [.int (a : Nat), .int (b : Nat)] H Q E := by
  unfold spSans
  exact ⟨a, b, rfl, h⟩
theorem scSans : FnScope ["places", "taken"] ["places", "taken"] (defScope (top i_without)) := ⟨rfl, rfl, rfl, by decide +kernel, rfl, by decide +kernel, by decide +kernel⟩
theorem ok_sans {f : Addr} {fd : FuncData} (F : Fun K "without" "without" (top i_without) f fd) : FnOk P w K mg base CX0 2 f fd ["places", "taken"] spSans := by
  refine F.ok scSans (fun vs H Q E h => ?_) (fun cdv A outer s H vs Q E hr h => ⟨_, pss_one (ps_ret (pe_op op_and (pv 0) (pe_un un_inv (pv 1)))), ?_⟩)
  · unfold spSans at h
    obtain ⟨_, _, rfl, _⟩ := h
    rfl
  unfold spSans at h
  obtain ⟨a, b, rfl, hQ⟩ := h
  refine ⟨_, rfl, _, rfl, _, rfl, _, _, rfl, rfl, ?_⟩
  dsimp only
  rw [Bits.int_sans]
  exact hQ
/-! staying -/
def stayL (n : Nat) : List Nat := (List.range n).map fun i => 2 ^ i
@[irreducible] def spStay : Sp := fun vs H Q _ => ∃ n : Nat, vs = [.int (n : Nat)] ∧ n ≤ 1000 ∧ ∀ H' r, Same H H' → H r = none → H' r = some (.lst (iv (stayL n))) → Q (.ref r) H'
theorem stay_use {n : Nat} (hn : n ≤ 1000) (h : ∀ H' r, Same H H' → H r = none → H' r = some (.lst (iv (stayL n))) → Q (.ref r) H') : spStay [.int (n : Nat)] H Q E := by
  unfold spStay
  exact ⟨n, rfl, hn, h⟩
theorem scStay : FnScope ["count", "place"] ["count"] (defScope (top i_staying)) := ⟨rfl, rfl, rfl, by decide +kernel, rfl, by decide +kernel, by decide +kernel⟩
theorem ok_stay {f : Addr} {fd : FuncData} (F : Fun K "staying" "staying" (top i_staying) f fd) (hrange : mg "range" = none) (G1 : GOk P w K mg base CX0 2 "only" ["place"] spOnly) : FnOk P w K mg base CX0 3 f fd ["count"] spStay := by
  obtain ⟨f1, fd1, gg1, k1, b1, G1⟩ := G1
  refine F.ok scStay (fun vs H Q E h => ?_) (fun cdv A outer s H vs Q E hr h => ⟨_, pss_one (ps_ret (pe_lc (own := [("place", 1)]) (g := gName 1) (tt := tYes) (te := tCall spOnly [] E0 (tCons (tVar 1) tNil)) rfl scStay.nd (pi_range1 rfl hrange (pa_cons (pv 0) pa_nil)) (blkOk_by (N := ["count", "place"]) (sc := defScope (top i_staying)) (by decide +kernel)) (fun _ _ _ _ _ => pg_name (i := 1) scStay.nd rfl (Or.inl rfl)) (fun _ _ _ _ _ => pts_nil)
          (fun _ _ _ _ _ => by exact (pe_call G1 hr rfl gg1 k1 b1 .nil pass0 (by exact (pa_cons (pv 1) pa_nil)))))), ?_⟩)
  · unfold spStay at h
    obtain ⟨_, rfl, _⟩ := h
    rfl
  unfold spStay at h
  obtain ⟨n, rfl, hn, hQ⟩ := h
  refine ⟨_, rfl, (n : Nat), rfl, by omega, by omega, fun D hD => lc_range (lo := 0) (n := n) (fun i H' => Same H H' ∧ H' D = some (.lst (iv (stayL i)))) ?_ ?_ ?_⟩
  · exact ⟨Same.upd hD, upd_same⟩
  · rintro i H1 hi ⟨s1, e1⟩
    refine ⟨rfl, ?_⟩
    unfold tYes
    dsimp only
    rw [if_pos rfl]
    refine ⟨_, rfl, ?_⟩
    have e0 : ((0 : Int) + (i : Nat)) = ((i : Nat) : Int) := by omega
    rw [e0]
    refine only_use (by omega) ⟨_, e1, ?_, Same.upd' s1 hD, ?_⟩
    · rw [List.length_map]
      unfold stayL
      rw [List.length_map, List.length_range]
      exact small1000 (by omega)
    · rw [upd_same]
      unfold stayL iv
      rw [List.range_succ, List.map_append, List.map_append]
      rfl
  · rintro H1 ⟨s1, e1⟩
    exact hQ H1 D s1 hD e1
/-! reached_from -/
/-- what is reached by ns from the places p -/
def Rf (p : Nat) (ns : List Nat) (m : Nat) : Prop := ∀ e, m.testBit e = true ↔ ∃ i, p.testBit i = true ∧ (ns.getD i 0).testBit e = true
@[irreducible] def spRf (K : PySem.W.Frag) : Sp := fun vs H Q _ => ∃ (p : Nat) (r : Addr) (ns : List Nat), vs = [.int (p : Nat), .ref r] ∧ SqL K H r (iv ns) ∧ ns.length ≤ 1000 ∧ (∀ i, p.testBit i = true → i < ns.length) ∧ ∀ m : Nat, Rf p ns m → Q (.int (m : Nat)) H
theorem rf_use {p : Nat} {r : Addr} {ns : List Nat} (h : SqL K H r (iv ns)) (hl : ns.length ≤ 1000) (hp : ∀ i, p.testBit i = true → i < ns.length) (q : ∀ m : Nat, Rf p ns m → Q (.int (m : Nat)) H) : spRf K [.int (p : Nat), .ref r] H Q E := by
  unfold spRf
  exact ⟨p, r, ns, rfl, h, hl, hp, q⟩
theorem scRf : FnScope ["places", "reach", "reached", "highest"] ["places", "reach"] (defScope (top i_reached_from)) := ⟨rfl, rfl, rfl, by decide +kernel, rfl, by decide +kernel, by decide +kernel⟩
theorem ok_rf {f : Addr} {fd : FuncData} (F : Fun K "reached_from" "reached_from" (top i_reached_from) f fd) : FnOk P w K mg base CX0 2 f fd ["places", "reach"] (spRf K) := by
  refine F.ok scRf (fun vs H Q E h => ?_) (fun cdv A outer s H vs Q E hr h => ⟨_, pss_cons (ps_set (i := 2) scRf.nd rfl (.inl rfl) pe_int)
      (pss_cons (ps_while PassesOwn.never (pt_truth (pv 0) (by intro _; rfl))
        (pss_cons (ps_set (i := 3) scRf.nd rfl (.inl rfl) (pe_op op_sub (pe_bits (pv 0)) pe_int))
        (pss_cons (ps_aug (i := 2) scRf.nd rfl (.inl rfl) (pe_ix ix_list (pv 1) (pv 3) (fun _ _ => rfl)) iop_or)
        (pss_one (ps_aug (i := 0) scRf.nd rfl (.inl rfl) (pe_op op_oneShl pe_int (pv 3)) iop_xor)))))
      (pss_one (ps_ret (pv 2)))), ?_⟩)
  · unfold spRf at h
    obtain ⟨_, _, _, rfl, _⟩ := h
    rfl
  unfold spRf at h
  obtain ⟨p, r, ns, rfl, hq, hl, hp, hQ⟩ := h
  refine ⟨fun m σ H' => ∃ q t : Nat, m = q ∧ H' = H ∧ (∃ v3, σ = [some (.int (q : Nat)), some (.ref r), some (.int (t : Nat)), v3]) ∧ (∀ i, q.testBit i = true → i < ns.length) ∧ (∀ e, (t.testBit e = true ∨ ∃ i, q.testBit i = true ∧ (ns.getD i 0).testBit e = true) ↔ ∃ i, p.testBit i = true ∧ (ns.getD i 0).testBit e = true), ⟨p, p, 0, rfl, rfl, ⟨_, rfl⟩, hp, fun e => ?_⟩, ?_⟩
  · constructor
    · rintro (h | h)
      · rw [Nat.zero_testBit] at h
        cases h
      · exact h
    · exact .inr
  rintro m σ H1 ⟨q, t, rfl, rfl, ⟨v3, rfl⟩, hq1, hinv⟩
  refine ⟨_, rfl, _, rfl, ?_⟩
  by_cases c : m = 0
  · subst c
    refine if_false_of rfl ⟨_, rfl, hQ t fun e => ?_⟩
    constructor
    · exact fun h => (hinv e).mp (.inl h)
    · intro h
      rcases (hinv e).mpr h with h | ⟨i, h, _⟩
      · exact h
      · rw [Nat.zero_testBit] at h
        cases h
  · have hq0 : 0 < m := Nat.pos_of_ne_zero c
    have hb := Bits.log2_bit hq0
    have hlt := hq1 _ hb
    refine if_true_of (by rw [bne_iff_ne]; omega) ⟨fun σ' H' => ∃ q' t' : Nat, q' < m ∧ H' = H1 ∧ (∃ v3, σ' = [some (.int (q' : Nat)), some (.ref r), some (.int (t' : Nat)), v3]) ∧ (∀ i, q'.testBit i = true → i < ns.length) ∧ (∀ e, (t'.testBit e = true ∨ ∃ i, q'.testBit i = true ∧ (ns.getD i 0).testBit e = true) ↔ ∃ i, p.testBit i = true ∧ (ns.getD i 0).testBit e = true), ?_, ?_⟩
    · rintro σ' H' ⟨q', t', hlt', rfl, h1, h2, h3⟩
      exact ⟨q', hlt', q', t', rfl, rfl, h1, h2, h3⟩
    · refine ⟨_, rfl, _, rfl, _, _, rfl, rfl, ?_⟩
      dsimp only
      rw [Bits.int_bits hq0]
      have hget : ns[m.log2]? = some (ns.getD m.log2 0) := by rw [List.getD_eq_getElem?_getD, List.getElem?_eq_getElem hlt]; rfl
      refine ⟨_, rfl, _, rfl, _, rfl, r, _, _, _, rfl, rfl, hq, atI_nat (iv_at hget), _, _, rfl, rfl, ?_⟩
      dsimp only
      rw [Bits.int_or]
      refine ⟨_, rfl, _, rfl, m.log2, rfl, rfl, by omega, ?_⟩
      rw [pow_cast]
      refine ⟨_, _, rfl, rfl, ?_⟩
      dsimp only
      rw [Bits.int_xor, Bits.xor_bit hb]
      refine ⟨sans m (2 ^ m.log2), t ||| ns.getD m.log2 0, ?_, rfl, ⟨_, rfl⟩, fun i hi => ?_, fun e => ?_⟩
      · unfold sans
        have h1 : m &&& 2 ^ m.log2 ≠ 0 := fun e => by
          have := Nat.testBit_and m (2 ^ m.log2) m.log2
          rw [e, hb, Nat.testBit_two_pow_self, Nat.zero_testBit] at this
          cases this
        have h2 := Bits.and_le m (2 ^ m.log2)
        omega
      · rw [Bits.sans_bit, Bool.and_eq_true] at hi
        exact hq1 i hi.1
      · rw [← hinv e, Nat.testBit_or, Bool.or_eq_true]
        constructor
        · rintro ((h | h) | ⟨i, h, h2⟩)
          · exact .inl h
          · exact .inr ⟨_, hb, h⟩
          · rw [Bits.sans_bit, Bool.and_eq_true] at h
            exact .inr ⟨i, h.1, h2⟩
        · rintro (h | ⟨i, h, h2⟩)
          · exact .inl (.inl h)
          · by_cases ei : i = m.log2
            · rw [ei] at h2
              exact .inl (.inr h2)
            · refine .inr ⟨i, ?_, h2⟩
              rw [Bits.sans_bit, h, Nat.testBit_two_pow, decide_eq_false (fun x => ei x.symm)]
              rfl
end
end Pat
end

section
namespace Pat
open PySem PySem.Spec PyProof.Rows L2
open Bits (sans low)
theorem iv_snoc {ns : List Nat} {n : Nat} : iv ns ++ [V.int (n : Nat)] = iv (ns ++ [n]) := by
  unfold iv
  rw [List.map_append]
  rfl
/-- ns tells for each of the places to n where one comes to by ρ -/
def Rep (n : Nat) (ns : List Nat) (ρ : Nat → Nat → Prop) : Prop := ns.length = n + 1 ∧ ∀ i, i ≤ n → ∀ e, (ns.getD i 0).testBit e = true ↔ ρ i e
theorem Rep.congr {n : Nat} {ns : List Nat} {ρ σ : Nat → Nat → Prop} (h : Rep n ns ρ) (k : ∀ i, i ≤ n → ∀ e, ρ i e ↔ σ i e) : Rep n ns σ := ⟨h.1, fun i hi e => (h.2 i hi e).trans (k i hi e)⟩
theorem Rep.get {n : Nat} {ns : List Nat} {ρ : Nat → Nat → Prop} (h : Rep n ns ρ) {i : Nat} (hi : i ≤ n) : ns[i]? = some (ns.getD i 0) := by
  rw [List.getD_eq_getElem?_getD, List.getElem?_eq_getElem (by rw [h.1]; omega)]
  rfl
/-- from a place on to places not before it, not behind the end -/
def Onw (n : Nat) (ρ : Nat → Nat → Prop) : Prop := ∀ i, i ≤ n → ∀ e, ρ i e → i ≤ e ∧ e ≤ n
def Comp (ρ σ : Nat → Nat → Prop) : Nat → Nat → Prop := fun i e => ∃ j, ρ i j ∧ σ j e
inductive Star (ρ : Nat → Nat → Prop) : Nat → Nat → Prop where
  | refl (i : Nat) : Star ρ i i
  | step {i j e : Nat} : ρ i j → Star ρ j e → Star ρ i e
theorem Star.trans {ρ : Nat → Nat → Prop} {i j e : Nat} (h : Star ρ i j) (k : Star ρ j e) : Star ρ i e := by
  induction h with
  | refl => exact k
  | step a _ ih => exact .step a (ih k)
theorem stay_rep (n : Nat) : Rep n (stayL (n + 1)) (fun i e => i = e) := by
  refine ⟨by unfold stayL; rw [List.length_map, List.length_range], fun i hi e => ?_⟩
  have : (stayL (n + 1)).getD i 0 = 2 ^ i := by
    unfold stayL
    rw [List.getD_eq_getElem?_getD, List.getElem?_map, List.getElem?_range (by omega)]
    rfl
  rw [this, Nat.testBit_two_pow]
  exact decide_eq_true_iff
section
variable {P : Program} {w : World} {K : PySem.W.Frag} {mg : Str → Option Value} {base : Heap} {H : Hp} {Q : VK} {E : XK}
/-! one_behind_other -/
@[irreducible] def spObo (K : PySem.W.Frag) : Sp := fun vs H Q _ => ∃ (a b : Addr) (n : Nat) (ns ms : List Nat) (ρ σ : Nat → Nat → Prop), vs = [.ref a, .ref b] ∧ SqL K H a (iv ns) ∧ SqL K H b (iv ms) ∧ n ≤ 200 ∧ Rep n ns ρ ∧ Rep n ms σ ∧ Onw n ρ ∧
  ∀ H' r ks, Same H H' → H r = none → H' r = some (.lst (iv ks)) → Rep n ks (Comp ρ σ) → Q (.ref r) H'
theorem obo_use {a b : Addr} {n : Nat} {ns ms : List Nat} {ρ σ : Nat → Nat → Prop} (ha : SqL K H a (iv ns)) (hb : SqL K H b (iv ms)) (hn : n ≤ 200) (h1 : Rep n ns ρ) (h2 : Rep n ms σ) (h3 : Onw n ρ) (q : ∀ H' r ks, Same H H' → H r = none → H' r = some (.lst (iv ks)) → Rep n ks (Comp ρ σ) → Q (.ref r) H') : spObo K [.ref a, .ref b] H Q E := by
  unfold spObo
  exact ⟨a, b, n, ns, ms, ρ, σ, rfl, ha, hb, hn, h1, h2, h3, q⟩
theorem scObo : FnScope ["reach", "next_reach", "places"] ["reach", "next_reach"] (defScope (top i_one_behind_other)) := ⟨rfl, rfl, rfl, by decide +kernel, rfl, by decide +kernel, by decide +kernel⟩
theorem ok_obo {f : Addr} {fd : FuncData} (F : Fun K "one_behind_other" "one_behind_other" (top i_one_behind_other) f fd) (G1 : GOk P w K mg base CX0 2 "reached_from" ["places", "reach"] (spRf K)) : FnOk P w K mg base CX0 3 f fd ["reach", "next_reach"] (spObo K) := by
  obtain ⟨f1, fd1, gg1, k1, b1, G1⟩ := G1
  refine F.ok scObo (fun vs H Q E h => ?_) (fun cdv A outer s H vs Q E hr h => ⟨_, pss_one (ps_ret (pe_lc (own := [("places", 2)]) (g := gName 2) (tt := tYes) (te := tCall (spRf K) [] E0 (tCons (tVar 2) (tCons (tVar 1) tNil))) rfl scObo.nd (pi_list (pv 0)) (blkOk_by (N := ["reach", "next_reach", "places"]) (sc := defScope (top i_one_behind_other)) (by decide +kernel)) (fun _ _ _ _ _ => pg_name (i := 2) scObo.nd rfl (Or.inl rfl)) (fun _ _ _ _ _ => pts_nil)
          (fun _ _ _ _ _ => by exact (pe_call G1 hr rfl gg1 k1 b1 .nil pass0 (by exact (pa_cons (pv 2) (pa_cons (pv 1) pa_nil))))))), ?_⟩)
  · unfold spObo at h
    obtain ⟨_, _, _, _, _, _, _, rfl, _⟩ := h
    rfl
  unfold spObo at h
  obtain ⟨a, b, n, ns, ms, ρ, σ, rfl, ha, hb, hn, h1, h2, h3, hQ⟩ := h
  refine ⟨_, rfl, a, rfl, ⟨_, ha⟩, fun D hD => lc_list (xs := iv ns) (fun i H' => Same H H' ∧ ∃ ks : List Nat, H' D = some (.lst (iv ks)) ∧ ks.length = i ∧ ∀ j, j < i → ∀ e, (ks.getD j 0).testBit e = true ↔ Comp ρ σ j e) ?_ (fun i H' _ h => sql_same ha h.1) ?_ ?_⟩
  · exact ⟨Same.upd hD, [], upd_same, rfl, fun j hj => by omega⟩
  · rintro i x H1 hx ⟨s1, ks, e1, hkl, hk⟩
    have hi : i < (iv ns).length := (List.getElem?_eq_some_iff.mp hx).1
    rw [List.length_map, h1.1] at hi
    rw [iv_at (h1.get (by omega : i ≤ n))] at hx
    cases hx
    refine ⟨rfl, ?_⟩
    unfold tYes
    dsimp only
    rw [if_pos rfl]
    refine ⟨_, rfl, _, rfl, ?_⟩
    refine rf_use (sql_same hb s1) (by rw [h2.1]; omega) (fun j hj => ?_) fun m hm => ?_
    · have := h3 i (by omega) j ((h1.2 i (by omega) j).mp hj)
      rw [h2.1]
      omega
    · refine ⟨_, e1, by rw [List.length_map, hkl]; exact small1000 (by omega), Same.upd' s1 hD, ks ++ [m], ?_, ?_, ?_⟩
      · rw [upd_same, iv_snoc]
      · rw [List.length_append, hkl]
        rfl
      · intro j hj e
        by_cases c : j < i
        · rw [← hk j c e, List.getD_eq_getElem?_getD, List.getD_eq_getElem?_getD, List.getElem?_append_left (by omega)]
        · have ej : j = i := by omega
          subst ej
          have : (ks ++ [m]).getD j 0 = m := by
            rw [List.getD_eq_getElem?_getD, List.getElem?_append_right (by omega), hkl, Nat.sub_self]
            rfl
          rw [this, hm e]
          constructor
          · rintro ⟨k, hk1, hk2⟩
            have hr := (h1.2 j (by omega) k).mp hk1
            have hkn := (h3 j (by omega) k hr).2
            exact ⟨k, hr, (h2.2 k hkn e).mp hk2⟩
          · rintro ⟨k, hk1, hk2⟩
            have hkn := (h3 j (by omega) k hk1).2
            exact ⟨k, (h1.2 j (by omega) k).mpr hk1, (h2.2 k hkn e).mpr hk2⟩
  · rintro H1 ⟨s1, ks, e1, hkl, hk⟩
    rw [List.length_map, h1.1] at hkl hk
    exact hQ H1 D ks s1 hD e1 ⟨hkl, fun i hi e => hk i (by omega) e⟩
/-! leading_to -/
@[irreducible] def spLead (K : PySem.W.Frag) : Sp := fun vs H Q _ => ∃ (t : Nat) (r : Addr) (pl n : Nat) (ns : List Nat) (ρ : Nat → Nat → Prop), vs = [.int (t : Nat), .ref r, .int (pl : Nat)] ∧ SqL K H r (iv ns) ∧ n ≤ 200 ∧ Rep n ns ρ ∧ Onw n ρ ∧ 0 < t ∧ (∀ i, pl.testBit i = true → i ≤ n) ∧
  ∀ m : Nat, (∀ i, m.testBit i = true ↔ pl.testBit i = true ∧ ∃ e, t.testBit e = true ∧ ρ i e) → Q (.int (m : Nat)) H
theorem lead_use {t pl : Nat} {r : Addr} {n : Nat} {ns : List Nat} {ρ : Nat → Nat → Prop} (h : SqL K H r (iv ns)) (hn : n ≤ 200) (h1 : Rep n ns ρ) (h2 : Onw n ρ) (ht : 0 < t) (hp : ∀ i, pl.testBit i = true → i ≤ n) (q : ∀ m : Nat, (∀ i, m.testBit i = true ↔ pl.testBit i = true ∧ ∃ e, t.testBit e = true ∧ ρ i e) → Q (.int (m : Nat)) H) : spLead K [.int (t : Nat), .ref r, .int (pl : Nat)] H Q E := by
  unfold spLead
  exact ⟨t, r, pl, n, ns, ρ, rfl, h, hn, h1, h2, ht, hp, q⟩
theorem scLead : FnScope ["targets", "reach", "places", "leading", "last", "place"] ["targets", "reach", "places"] (defScope (top i_leading_to)) := ⟨rfl, rfl, rfl, by decide +kernel, rfl, by decide +kernel, by decide +kernel⟩
theorem and_pos {a b : Nat} : a &&& b ≠ 0 ↔ ∃ e, a.testBit e = true ∧ b.testBit e = true := by
  constructor
  · intro h
    have hp : 0 < a &&& b := Nat.pos_of_ne_zero h
    have := Bits.log2_bit hp
    rw [Nat.testBit_and, Bool.and_eq_true] at this
    exact ⟨_, this⟩
  · rintro ⟨e, h1, h2⟩ h
    have := Nat.testBit_and a b e
    rw [h, h1, h2, Nat.zero_testBit] at this
    cases this
/-- below the lowest there is none -/
theorem low_le {p : Nat} : ∀ e, p.testBit e = true → low p ≤ e := by
  induction p using Nat.strongRecOn with
  | _ p ih =>
    intro e he
    have hp := Bits.pos_of he
    obtain ⟨h1, h2⟩ := Bits.sans_half p (p - 1)
    rcases Nat.mod_two_eq_zero_or_one p with h | h
    · have e1 : (p - 1) / 2 = p / 2 - 1 := by omega
      have e2 : (p - 1) % 2 = 1 := by omega
      rw [e1] at h1
      rw [h, e2] at h2
      have h3 := (Bits.low_pos (p / 2) (by omega)).1
      have h5 : sans p (p - 1) = 2 * sans (p / 2) (p / 2 - 1) := by omega
      cases e with
      | zero =>
        rw [Nat.testBit_zero, h] at he
        cases he
      | succ e =>
        rw [Nat.testBit_succ] at he
        have := ih (p / 2) (by omega) e he
        unfold low at this ⊢
        rw [h5, Nat.log2_two_mul (by omega)]
        omega
    · have e1 : (p - 1) / 2 = p / 2 := by omega
      have e2 : (p - 1) % 2 = 0 := by omega
      rw [e1] at h1
      rw [h, e2] at h2
      have h6 : sans (p / 2) (p / 2) = 0 := by unfold sans; rw [Nat.and_self]; omega
      have h5 : sans p (p - 1) = 1 := by omega
      have h7 : low p = 0 := by
        unfold low
        rw [h5]
        decide
      rw [h7]
      exact Nat.zero_le _
theorem ok_lead {f : Addr} {fd : FuncData} (F : Fun K "leading_to" "leading_to" (top i_leading_to) f fd) (hrange : mg "range" = none) (hmin : mg "min" = none) (G1 : GOk P w K mg base CX0 2 "highest_place" ["places"] spHigh) (G2 : GOk P w K mg base CX0 2 "lowest_place" ["places"] spLow) : FnOk P w K mg base CX0 3 f fd ["targets", "reach", "places"] (spLead K) := by
  obtain ⟨f1, fd1, gg1, k1, b1, G1⟩ := G1
  obtain ⟨f2, fd2, gg2, k2, b2, G2⟩ := G2
  refine F.ok scLead (fun vs H Q E h => ?_) (fun cdv A outer s H vs Q E hr h => ⟨_, pss_cons (ps_if (pt_cmpR op_eq (pv 2) pe_int (nomark _)) (pss_one (ps_ret pe_int)) pss_nil)
      (pss_cons (ps_set (i := 3) scLead.nd rfl (.inl rfl) pe_int)
      (pss_cons (ps_set (i := 4) scLead.nd rfl (.inl rfl) (pe_callB (call_min2 rfl) (by rfl) hmin (by decide +kernel) (by exact (pa_cons (pe_call G1 hr rfl gg1 k1 b1 .nil pass0 (by exact (pa_cons (pv 2) pa_nil))) (pa_cons (pe_call G1 hr rfl gg1 k1 b1 .nil pass0 (by exact (pa_cons (pv 0) pa_nil))) pa_nil)))))
      (pss_cons (ps_for PassesOwn.never rfl (pi_range2 (by rfl) hrange (by exact (pa_cons (pe_call G2 hr rfl gg2 k2 b2 .nil pass0 (by exact (pa_cons (pv 2) pa_nil))) (pa_cons (pe_op op_add (pv 4) pe_int) pa_nil)))) (pg_name (i := 5) scLead.nd rfl (Or.inl rfl))
        (pss_one (ps_if (pt_truth (pe_op op_and (pe_ix ix_list (pv 1) (pv 5) (fun _ _ => rfl)) (pv 0)) (by intro _; rfl)) (pss_one (ps_aug (i := 3) scLead.nd rfl (.inl rfl) (pe_op op_oneShl pe_int (pv 5)) iop_or)) pss_nil)))
      (pss_one (ps_ret (pe_op op_and (pv 3) (pv 2))))))), ?_⟩)
  · unfold spLead at h
    obtain ⟨_, _, _, _, _, _, rfl, _⟩ := h
    rfl
  unfold spLead at h
  obtain ⟨t, r, pl, n, ns, ρ, rfl, hq, hn, h1, h2c, ht, hpn, hQ⟩ := h
  refine ⟨_, rfl, rfl, _, rfl, ?_⟩
  by_cases c0 : pl = 0
  · subst c0
    refine if_true_of rfl (hQ 0 fun i => ?_)
    rw [Nat.zero_testBit]
    constructor
    · intro h; cases h
    · rintro ⟨h, _⟩; cases h
  have hp0 : 0 < pl := Nat.pos_of_ne_zero c0
  refine if_false_of (decide_eq_false fun e => c0 (by injection e with e; exact Int.ofNat.inj e)) ?_
  refine ⟨_, rfl, ?_⟩
  refine high_use hp0 ⟨_, rfl, ?_⟩
  refine high_use ht ⟨_, _, rfl, ?_⟩
  have em : (if (((t.log2 : Nat) : Int)) < ((pl.log2 : Nat) : Int) then ((t.log2 : Nat) : Int) else ((pl.log2 : Nat) : Int)) = ((min pl.log2 t.log2 : Nat) : Int) := by
    by_cases c : ((t.log2 : Nat) : Int) < ((pl.log2 : Nat) : Int)
    · rw [if_pos c]; omega
    · rw [if_neg c]; omega
  rw [em]
  have hpl := hpn _ (Bits.log2_bit hp0)
  have hlow := (Bits.low_pos pl hp0).2
  have hlown := hpn _ hlow
  refine ⟨_, rfl, ?_⟩
  refine low_use hp0 ⟨_, rfl, _, _, rfl, rfl, _, _, rfl, ⟨by omega, by omega, by omega, by omega⟩, ?_⟩
  refine for_range (lo := ((low pl : Nat) : Int)) (n := ((((min pl.log2 t.log2 : Nat) : Int) + 1) - ((low pl : Nat) : Int)).toNat) (fun i σ H' => H' = H ∧ ∃ m : Nat, (∃ v5, σ = [some (.int (t : Nat)), some (.ref r), some (.int (pl : Nat)), some (.int (m : Nat)), some (.int ((min pl.log2 t.log2 : Nat) : Int)), v5]) ∧ ∀ j, m.testBit j = true ↔ low pl ≤ j ∧ j < low pl + i ∧ ∃ e, t.testBit e = true ∧ ρ j e) ?_ ?_ ?_
  · refine ⟨rfl, 0, ⟨_, rfl⟩, fun j => ?_⟩
    rw [Nat.zero_testBit]
    constructor
    · intro h; cases h
    · rintro ⟨h, h2, _⟩; omega
  · rintro i σ H1 hi ⟨rfl, m, ⟨v5, rfl⟩, hm⟩
    have hin : low pl + i ≤ n := by omega
    have ei : ((low pl : Nat) : Int) + (i : Nat) = ((low pl + i : Nat) : Int) := by omega
    rw [ei]
    have hz : ∀ j, ρ (low pl + i) j ↔ (ns.getD (low pl + i) 0).testBit j = true := fun j => (h1.2 _ hin j).symm
    refine ⟨_, rfl, _, rfl, r, _, _, _, rfl, rfl, hq, atI_nat (iv_at (h1.get hin)), _, rfl, _, _, rfl, rfl, _, rfl, ?_⟩
    dsimp only
    rw [Bits.int_and]
    by_cases c : ns.getD (low pl + i) 0 &&& t = 0
    · rw [c]
      refine if_false_of rfl ⟨rfl, m, ⟨_, rfl⟩, fun j => ?_⟩
      rw [hm j]
      constructor
      · rintro ⟨h, h2, h3⟩
        exact ⟨h, by omega, h3⟩
      · rintro ⟨h, hj, e, h2, h3⟩
        by_cases cj : j < low pl + i
        · exact ⟨h, cj, e, h2, h3⟩
        · have ej : j = low pl + i := by omega
          rw [ej] at h3
          exact absurd c (and_pos.mpr ⟨e, (hz e).mp h3, h2⟩)
    · obtain ⟨e, he1, he2⟩ := and_pos.mp c
      refine if_true_of (by rw [bne_iff_ne]; omega) ?_
      refine ⟨_, rfl, _, rfl, low pl + i, rfl, rfl, by omega, ?_⟩
      rw [pow_cast]
      refine ⟨_, _, rfl, rfl, ?_⟩
      dsimp only
      rw [Bits.int_or]
      refine ⟨rfl, m ||| 2 ^ (low pl + i), ⟨_, rfl⟩, fun j => ?_⟩
      rw [Nat.testBit_or, Bool.or_eq_true, hm j, Nat.testBit_two_pow, decide_eq_true_iff]
      constructor
      · rintro (⟨h, h2, h3⟩ | h)
        · exact ⟨h, by omega, h3⟩
        · rw [← h]
          exact ⟨by omega, by omega, e, he2, (hz e).mpr he1⟩
      · rintro ⟨h, h2, h3⟩
        by_cases cj : j < low pl + i
        · exact .inl ⟨h, cj, h3⟩
        · exact .inr (by omega)
  · rintro σ H1 ⟨rfl, m, ⟨v5, rfl⟩, hm⟩
    refine ⟨_, rfl, _, rfl, _, _, rfl, rfl, ?_⟩
    dsimp only
    rw [Bits.int_and]
    refine hQ _ fun i => ?_
    rw [Nat.testBit_and, Bool.and_eq_true, hm i]
    constructor
    · rintro ⟨⟨_, _, h⟩, h2⟩
      exact ⟨h2, h⟩
    · rintro ⟨h2, e, h3, h4⟩
      refine ⟨⟨low_le _ h2, ?_, e, h3, h4⟩, h2⟩
      have h5 := Bits.log2_top h2
      have h6 := Bits.log2_top h3
      have h7 := (h2c i (hpn i h2) e h4).1
      omega
/-! any_times_onward -/
@[irreducible] def spAny (K : PySem.W.Frag) : Sp := fun vs H Q _ => ∃ (r : Addr) (n : Nat) (ns : List Nat) (ρ : Nat → Nat → Prop), vs = [.ref r] ∧ SqL K H r (iv ns) ∧ n ≤ 200 ∧ Rep n ns ρ ∧ Onw n ρ ∧
  ∀ H' c ks, Same H H' → H c = none → H' c = some (.lst (iv ks)) → Rep n ks (Star ρ) → Q (.ref c) H'
theorem any_use {r : Addr} {n : Nat} {ns : List Nat} {ρ : Nat → Nat → Prop} (h : SqL K H r (iv ns)) (hn : n ≤ 200) (h1 : Rep n ns ρ) (h2 : Onw n ρ) (q : ∀ H' c ks, Same H H' → H c = none → H' c = some (.lst (iv ks)) → Rep n ks (Star ρ) → Q (.ref c) H') : spAny K [.ref r] H Q E := by
  unfold spAny
  exact ⟨r, n, ns, ρ, rfl, h, hn, h1, h2, q⟩
theorem Star.onw {n : Nat} {ρ : Nat → Nat → Prop} (h : Onw n ρ) : Onw n (Star ρ) := fun i hi e s => by
  induction s with
  | refl => exact ⟨Nat.le_refl _, hi⟩
  | step a _ ih =>
    obtain ⟨h1, h2⟩ := h _ hi _ a
    obtain ⟨h3, h4⟩ := ih h2
    exact ⟨Nat.le_trans h1 h3, h4⟩
/-- c has all that p comes to, if it has what p comes to at one step, and all that these come to -/
theorem star_of {n p : Nat} {ρ : Nat → Nat → Prop} (ho : Onw n ρ) (hp : p ≤ n) {c : Nat → Prop} (h0 : c p) (h1 : ∀ j, ρ p j → c j) (h2 : ∀ j, c j → p < j → ∀ e, Star ρ j e → c e) : ∀ e, Star ρ p e → c e := by
  intro e s
  generalize hq : p = q at s
  induction s with
  | refl => rw [← hq]; exact h0
  | @step i j e a b ih =>
    subst hq
    have hj := h1 j a
    obtain ⟨h3, h4⟩ := ho p hp j a
    rcases Nat.lt_or_ge p j with x | x
    · exact h2 j hj x e b
    · exact ih (by omega)
theorem set_get {α : Type} {l : List α} {i j : Nat} {x : α} (h : i < l.length) (d : α) : (l.set i x).getD j d = if j = i then x else l.getD j d := by
  rw [List.getD_eq_getElem?_getD, List.getElem?_set]
  by_cases c : j = i
  · subst c
    rw [if_pos rfl, if_pos h, if_pos rfl]
    rfl
  · rw [if_neg (fun x => c x.symm), if_neg c, List.getD_eq_getElem?_getD]
theorem scAny : FnScope ["reach", "closed", "place", "todo"] ["reach"] (defScope (top i_any_times_onward)) := ⟨rfl, rfl, rfl, by decide +kernel, rfl, by decide +kernel, by decide +kernel⟩
theorem ixN_nat {n k : Nat} (h : k < n) : ixN n ((k : Nat) : Int) = some k := by
  unfold ixN
  rw [if_pos (by omega), if_pos (by omega)]
  rfl
theorem ok_any {f : Addr} {fd : FuncData} (F : Fun K "any_times_onward" "any_times_onward" (top i_any_times_onward) f fd) (hlen : mg "len" = none) (hrange : mg "range" = none) (G1 : GOk P w K mg base CX0 3 "staying" ["count"] spStay) (G2 : GOk P w K mg base CX0 2 "without" ["places", "taken"] spSans)
    (G3 : GOk P w K mg base CX0 2 "lowest_place" ["places"] spLow) : FnOk P w K mg base CX0 4 f fd ["reach"] (spAny K) := by
  obtain ⟨f1, fd1, gg1, k1, b1, G1⟩ := G1
  obtain ⟨f2, fd2, gg2, k2, b2, G2⟩ := G2
  obtain ⟨f3, fd3, gg3, k3, b3, G3⟩ := G3
  refine F.ok scAny (fun vs H Q E h => ?_) (fun cdv A outer s H vs Q E hr h => ⟨_, pss_cons (ps_set (i := 1) scAny.nd rfl (.inl rfl) (pe_call G1 hr rfl gg1 k1 b1 .nil pass0 (by exact (pa_cons (pe_callB call_len_seq (by rfl) hlen PySem.boot_len (pa_cons (pv 0) pa_nil)) pa_nil))))
      (pss_cons (ps_for PassesOwn.never rfl (pi_range3 rfl hrange (by exact (pa_cons (pe_op op_sub (pe_callB call_len_seq (by rfl) hlen PySem.boot_len (pa_cons (pv 0) pa_nil)) pe_int) (pa_cons (pe_un un_neg pe_int) (pa_cons (pe_un un_neg pe_int) pa_nil))))) (pg_name (i := 2) scAny.nd rfl (Or.inl rfl))
        (pss_cons (ps_set (i := 3) scAny.nd rfl (.inl rfl) (pe_call G2 (hr.mono (by decide)) rfl gg2 k2 b2 .nil pass0 (by exact (pa_cons (pe_ix ix_list (pv 0) (pv 2) (fun _ _ => rfl)) (pa_cons (pe_ix ix_list (pv 1) (pv 2) (fun _ _ => rfl)) pa_nil)))))
        (pss_one (ps_while PassesOwn.never (pt_truth (pv 3) (by intro _; rfl))
          (pss_cons (ps_augS (tip := rI0 fun i j => .int (Builtin.bitOr i j)) (pv 1) (pv 2) get_list (pe_ix ix_list (pv 1) (pe_call G3 (hr.mono (by decide)) rfl gg3 k3 b3 .nil pass0 (by exact (pa_cons (pv 3) pa_nil))) (fun _ _ => rfl)) iop_or set_list)
          (pss_one (ps_set (i := 3) scAny.nd rfl (.inl rfl) (pe_call G2 (hr.mono (by decide)) rfl gg2 k2 b2 .nil pass0 (by exact (pa_cons (pv 3) (pa_cons (pe_ix ix_list (pv 1) (pv 2) (fun _ _ => rfl)) pa_nil)))))))))))
      (pss_one (ps_ret (pv 1)))), ?_⟩)
  · unfold spAny at h
    obtain ⟨_, _, _, _, rfl, _⟩ := h
    rfl
  unfold spAny at h
  obtain ⟨r, n, ns, ρ, rfl, hq, hn, h1, h2, hQ⟩ := h
  have enl : (((iv ns).length : Nat) : Int) = ((n + 1 : Nat) : Int) := by rw [List.length_map, h1.1]
  refine ⟨_, rfl, r, _, rfl, .inl hq, ?_⟩
  rw [enl]
  refine stay_use (by omega) fun H1 c s1 hc e1 => ?_
  have enl1 : (((iv ns).length : Nat) : Int) - 1 = ((n : Nat) : Int) := by rw [enl]; omega
  refine ⟨_, rfl, r, _, rfl, .inl (sql_same hq s1), _, _, rfl, rfl, _, rfl, _, rfl, ((n : Nat) : Int), -1, -1, n + 1, by rw [← enl1], ?_, ?_⟩
  · have := RgC.neg (i := ((n : Nat) : Int)) (j := -1) (by omega) (by omega) (by decide) (by decide)
    have e : (((n : Nat) : Int) - -1).toNat = n + 1 := by omega
    rw [e] at this
    exact this
  -- the places from the last one on
  refine for_rangeC (lo := ((n : Nat) : Int)) (c := -1) (n := n + 1) (fun i σ H' => Same H H' ∧ (∃ v2 v3, σ = [some (.ref r), some (.ref c), v2, v3]) ∧ ∃ ks : List Nat, H' c = some (.lst (iv ks)) ∧ ks.length = n + 1 ∧ (∀ j, j + i ≤ n → ks.getD j 0 = 2 ^ j) ∧ ∀ j, j ≤ n → n < j + i → ∀ e, (ks.getD j 0).testBit e = true ↔ Star ρ j e) ?_ ?_ ?_
  · refine ⟨s1, ⟨_, _, rfl⟩, stayL (n + 1), e1, (stay_rep n).1, fun j hj => ?_, fun j hj hj2 => by omega⟩
    unfold stayL
    rw [List.getD_eq_getElem?_getD, List.getElem?_map, List.getElem?_range (by omega)]
    rfl
  · rintro i σ H2 hi ⟨s2, ⟨v2, v3, rfl⟩, ks, e2, hkl, hk0, hk1⟩
    obtain ⟨p, hp⟩ : ∃ p, p + i = n := ⟨n - i, by omega⟩
    have ep : ((n : Nat) : Int) + (i : Nat) * -1 = ((p : Nat) : Int) := by omega
    rw [ep]
    have hpn : p ≤ n := by omega
    have hkp : ks.getD p 0 = 2 ^ p := hk0 p (by omega)
    have gk : ∀ {ks : List Nat}, ks.length = n + 1 → ∀ j, j ≤ n → ks[j]? = some (ks.getD j 0) := fun {ks} hl j hj => by
      rw [List.getD_eq_getElem?_getD, List.getElem?_eq_getElem (by omega)]
      rfl
    refine ⟨_, rfl, _, rfl, r, _, _, _, rfl, rfl, sql_same hq s2, atI_nat (iv_at (h1.get hpn)), ?_⟩
    refine ⟨_, rfl, _, rfl, c, _, _, _, rfl, rfl, SqL.of e2, atI_nat (iv_at (gk hkl p hpn)), ?_⟩
    refine sans_use ?_
    have hz : ∀ j, ρ p j ↔ (ns.getD p 0).testBit j = true := fun j => (h1.2 p hpn j).symm
    refine ⟨fun m σ H' => ∃ (ks : List Nat) (t : Nat), m = t ∧ Same H H' ∧ σ = [some (.ref r), some (.ref c), some (.int (p : Nat)), some (.int (t : Nat))] ∧ H' c = some (.lst (iv ks)) ∧ ks.length = n + 1 ∧ (∀ j, j + (i + 1) ≤ n → ks.getD j 0 = 2 ^ j) ∧ (∀ j, j ≤ n → n < j + i → ∀ e, (ks.getD j 0).testBit e = true ↔ Star ρ j e) ∧
      (∀ e, (ks.getD p 0).testBit e = true → Star ρ p e) ∧ (ks.getD p 0).testBit p = true ∧ (∀ j, (ks.getD p 0).testBit j = true → p < j → ∀ e, Star ρ j e → (ks.getD p 0).testBit e = true) ∧ ∀ j, t.testBit j = true ↔ ρ p j ∧ (ks.getD p 0).testBit j = false,
      ⟨_, ks, sans (ns.getD p 0) (ks.getD p 0), rfl, s2, rfl, e2, hkl, fun j hj => hk0 j (by omega), hk1, fun e he => ?_, ?_, fun j hj hpj => ?_, fun j => ?_⟩, ?_⟩
    · rw [hkp, Nat.testBit_two_pow, decide_eq_true_iff] at he
      rw [← he]
      exact Star.refl _
    · rw [hkp]
      exact Nat.testBit_two_pow_self
    · rw [hkp, Nat.testBit_two_pow, decide_eq_true_iff] at hj
      omega
    · rw [Bits.sans_bit, hz j, Bool.and_eq_true, Bool.not_eq_true']
    rintro m σ H3 ⟨ks, t, rfl, s3, rfl, e3, hkl, hk0, hk1, hA, hB, hC, hD⟩
    refine ⟨_, rfl, _, rfl, ?_⟩
    by_cases ct : m = 0
    · subst ct
      refine if_false_of rfl ⟨s3, ⟨_, _, rfl⟩, ks, e3, hkl, hk0, fun j hj hij e => ?_⟩
      by_cases cj : j = p
      · subst cj
        refine ⟨hA e, fun s => star_of (c := fun e => (ks.getD j 0).testBit e = true) h2 hpn hB (fun k hk => ?_) hC e s⟩
        cases cb : (ks.getD j 0).testBit k with
        | true => rfl
        | false =>
          have := (hD k).mpr ⟨hk, cb⟩
          rw [Nat.zero_testBit] at this
          cases this
      · exact hk1 j hj (by omega) e
    · have ht0 : 0 < m := Nat.pos_of_ne_zero ct
      refine if_true_of (by rw [bne_iff_ne]; omega) ⟨fun σ' H' => ∃ (ks : List Nat) (t : Nat), t < m ∧ Same H H' ∧ σ' = [some (.ref r), some (.ref c), some (.int (p : Nat)), some (.int (t : Nat))] ∧ H' c = some (.lst (iv ks)) ∧ ks.length = n + 1 ∧ (∀ j, j + (i + 1) ≤ n → ks.getD j 0 = 2 ^ j) ∧ (∀ j, j ≤ n → n < j + i → ∀ e, (ks.getD j 0).testBit e = true ↔ Star ρ j e) ∧
          (∀ e, (ks.getD p 0).testBit e = true → Star ρ p e) ∧ (ks.getD p 0).testBit p = true ∧ (∀ j, (ks.getD p 0).testBit j = true → p < j → ∀ e, Star ρ j e → (ks.getD p 0).testBit e = true) ∧ ∀ j, t.testBit j = true ↔ ρ p j ∧ (ks.getD p 0).testBit j = false, ?_, ?_⟩
      · rintro σ' H' ⟨ks, t, hlt, x⟩
        exact ⟨t, hlt, ks, t, rfl, x⟩
      -- the lowest one
      have hl := (Bits.low_pos m ht0).2
      obtain ⟨hr, hnb⟩ := (hD _).mp hl
      obtain ⟨hpl, hln⟩ := h2 p hpn _ hr
      have hne : low m ≠ p := fun e => by rw [e, hB] at hnb; cases hnb
      refine ⟨_, rfl, _, rfl, c, _, p, _, rfl, rfl, SqL.of e3, iv_at (gk hkl p hpn), by omega, ?_⟩
      refine ⟨_, rfl, _, rfl, ?_⟩
      refine low_use ht0 ⟨c, _, _, _, rfl, rfl, SqL.of e3, atI_nat (iv_at (gk hkl _ hln)), _, _, rfl, rfl, ?_⟩
      dsimp only
      rw [Bits.int_or]
      refine ⟨c, _, _, p, rfl, rfl, e3, ixN_nat (by rw [List.length_map]; omega), ?_⟩
      have eset : (iv ks).set p (V.int ((ks.getD p 0 ||| ks.getD (low m) 0 : Nat) : Int)) = iv (ks.set p (ks.getD p 0 ||| ks.getD (low m) 0)) := by
        unfold iv
        rw [List.map_set]
      rw [eset]
      have gs : ∀ j, (ks.set p (ks.getD p 0 ||| ks.getD (low m) 0)).getD j 0 = if j = p then ks.getD p 0 ||| ks.getD (low m) 0 else ks.getD j 0 := fun j => set_get (by omega) 0
      have gp : (ks.set p (ks.getD p 0 ||| ks.getD (low m) 0)).getD p 0 = ks.getD p 0 ||| ks.getD (low m) 0 := by rw [gs, if_pos rfl]
      have hll : (ks.set p (ks.getD p 0 ||| ks.getD (low m) 0)).length = n + 1 := by rw [List.length_set]; exact hkl
      refine ⟨_, rfl, _, rfl, _, rfl, c, _, _, _, rfl, rfl, SqL.of upd_same, atI_nat (iv_at (gk hll p hpn)), ?_⟩
      have hst : ∀ e, (ks.getD (low m) 0).testBit e = true ↔ Star ρ (low m) e := hk1 (low m) hln (by omega)
      refine sans_use ⟨ks.set p (ks.getD p 0 ||| ks.getD (low m) 0), _, ?_, Same.upd' s3 hc, rfl, upd_same, hll, fun j hj => ?_, fun j hj hij e => ?_, fun e he => ?_, ?_, fun j hj hpj e he => ?_, fun j => ?_⟩
      · rw [gp]
        unfold sans
        have h3 : m &&& (ks.getD p 0 ||| ks.getD (low m) 0) ≠ 0 := fun e => by
          have := Nat.testBit_and m (ks.getD p 0 ||| ks.getD (low m) 0) (low m)
          rw [e, hl, Nat.zero_testBit, Nat.testBit_or, (hst _).mpr (Star.refl _), Bool.or_true] at this
          cases this
        have h4 := Bits.and_le m (ks.getD p 0 ||| ks.getD (low m) 0)
        omega
      · rw [gs, if_neg (by omega)]
        exact hk0 j hj
      · rw [gs, if_neg (by omega)]
        exact hk1 j hj hij e
      · rw [gp, Nat.testBit_or, Bool.or_eq_true] at he
        rcases he with he | he
        · exact hA e he
        · exact Star.step hr ((hst e).mp he)
      · rw [gp, Nat.testBit_or, hB]
        rfl
      · rw [gp, Nat.testBit_or, Bool.or_eq_true] at hj ⊢
        rcases hj with hj | hj
        · exact .inl (hC j hj hpj e he)
        · exact .inr ((hst e).mpr (((hst j).mp hj).trans he))
      · rw [gp, Bits.sans_bit, Bool.and_eq_true, Bool.not_eq_true', hD j, Nat.testBit_or, Bool.or_eq_false_iff]
        constructor
        · rintro ⟨⟨h3, h4⟩, h5⟩
          exact ⟨h3, h5⟩
        · rintro ⟨h3, h5⟩
          exact ⟨⟨h3, h5.1⟩, h5⟩
  · rintro σ H2 ⟨s2, ⟨v2, v3, rfl⟩, ks, e2, hkl, hk0, hk1⟩
    exact ⟨_, rfl, hQ H2 c ks s2 hc e2 ⟨hkl, fun j hj e => hk1 j hj (by omega) e⟩⟩
end
end Pat
end

section
namespace Pat
open PySem PySem.Spec PyProof.Rows L2
open PySem.FaultX (FaultTxt)
open PatUtf (Fault)
/-! ### texts -/
theorem pi_or {X : Cx} {tg e : Expr} {t1 t2 : TI} (h1 : PI X tg e t1) (h2 : PI X tg e t2) : PI X tg e (fun σ H R => t1 σ H R ∨ t2 σ H R) := ⟨fun pins s σ H R I h => h.elim (h1.run pins s σ H R I) (h2.run pins s σ H R I)⟩
section
variable {P : Program} {w : World} {K : PySem.W.Frag} {mg : Str → Option Value} {base : Heap} {CF fI : Addr} {H : Hp} {Q : VK} {E : XK}
/-! have_value -/
@[irreducible] def spHave (K : PySem.W.Frag) : Sp := fun vs H Q _ => ∃ (a : Addr) (l : List (Nat × Nat)) (v : Nat), vs = [.ref a, .int (v : Nat)] ∧ (RgAt K H a l ∨ KRg K a l) ∧ ∀ H', Same H H' → Q (.bl (PatWords.inSet l v)) H'
theorem have_use {a : Addr} {l : List (Nat × Nat)} {v : Nat} (h : RgAt K H a l ∨ KRg K a l) (q : ∀ H', Same H H' → Q (.bl (PatWords.inSet l v)) H') : spHave K [.ref a, .int (v : Nat)] H Q E := by
  unfold spHave
  exact ⟨a, l, v, rfl, h, q⟩
theorem scHave : FnScope ["ranges", "value", "lowest", "highest"] ["ranges", "value"] (defScope (top i_have_value)) := ⟨rfl, rfl, rfl, by decide +kernel, rfl, by decide +kernel, by decide +kernel⟩
theorem inSet_snoc {l : List (Nat × Nat)} {r : Nat × Nat} {v : Nat} : PatWords.inSet (l ++ [r]) v = (PatWords.inSet l v || (decide (r.1 ≤ v) && decide (v ≤ r.2))) := by
  unfold PatWords.inSet
  rw [List.any_append]
  simp only [List.any_cons, List.any_nil, Bool.or_false]
theorem inSet_has {l : List (Nat × Nat)} {r : Nat × Nat} {v : Nat} (m : r ∈ l) (h1 : r.1 ≤ v) (h2 : v ≤ r.2) : PatWords.inSet l v = true := by
  unfold PatWords.inSet
  rw [List.any_eq_true]
  exact ⟨r, m, by rw [decide_eq_true h1, decide_eq_true h2]; rfl⟩
theorem ok_have {f : Addr} {fd : FuncData} (F : Fun K "have_value" "have_value" (top i_have_value) f fd) : FnOk P w K mg base CX0 2 f fd ["ranges", "value"] (spHave K) := by
  refine F.ok scHave (fun vs H Q E h => ?_) (fun cdv A outer s H vs Q E hr h => ⟨_, pss_cons (ps_for PassesOwn.never rfl (pi_or (pi_list (pv 0)) (pi_tup (pv 0))) (pg_tup rfl (pgs_cons (pg_name (i := 2) scHave.nd rfl (Or.inl rfl)) (pgs_cons (pg_name (i := 3) scHave.nd rfl (Or.inl rfl)) pgs_nil)))
        (pss_one (ps_if (pt_chain op_le op_le (pv 2) (pv 1) (pv 3)) (pss_one (ps_ret pe_bl)) pss_nil)))
      (pss_one (ps_ret pe_bl)), ?_⟩)
  · unfold spHave at h
    obtain ⟨_, _, _, rfl, _⟩ := h
    rfl
  unfold spHave at h
  obtain ⟨a, l, v, rfl, hrg, hQ⟩ := h
  have step : ∀ {ts : List Addr} {H1 : Hp} {i : Nat} {x : V}, Tups K H1 ts l → (ts.map V.ref)[i]? = some x → ∃ t r, x = .ref t ∧ l[i]? = some r ∧ SqT K H1 t [.int (r.1 : Nat), .int (r.2 : Nat)] := by
    intro ts H1 i x ht hx
    rw [List.getElem?_map] at hx
    cases et : ts[i]? with
    | none => rw [et] at hx; cases hx
    | some t =>
      rw [et] at hx
      have hil : i < l.length := by rw [← ht.len]; exact (List.getElem?_eq_some_iff.mp et).1
      have er : l[i]? = some l[i] := List.getElem?_eq_getElem hil
      obtain ⟨t', ht', st⟩ := ht.get er
      rw [et] at ht'
      cases ht'
      cases hx
      exact ⟨t, _, rfl, er, st⟩
  have fin : ∀ {n : Nat} {H1 : Hp}, n = l.length → Same H H1 → PatWords.inSet (l.take n) v = false → Q (.bl false) H1 := by
    intro n H1 hn s1 hno
    rw [hn, List.take_length] at hno
    have hq := hQ H1 s1
    rw [hno] at hq
    exact hq
  rcases hrg with ⟨ts, ha, ht⟩ | ⟨ts, hK⟩
  · refine .inl ⟨_, rfl, a, rfl, ⟨_, SqL.of ha⟩, for_list (xs := ts.map V.ref) (fun i σ H' => Same H H' ∧ (∃ v2 v3, σ = [some (.ref a), some (.int (v : Nat)), v2, v3]) ∧ PatWords.inSet (l.take i) v = false) ?_ (fun i σ H' _ h => SqL.of (h.1 _ _ ha)) ?_ ?_⟩
    · exact ⟨fun _ _ h => h, ⟨_, _, rfl⟩, rfl⟩
    · rintro i x σ H1 hx ⟨s1, ⟨v2, v3, rfl⟩, hno⟩
      obtain ⟨t, r, rfl, er, st⟩ := step (Tups.map (fun _ _ e => sqt_same' e s1) ht) hx
      refine ⟨t, _, rfl, st, rfl, _, _, rfl, _, _, rfl, rfl, ?_⟩
      have htk : l.take (i + 1) = l.take i ++ [r] := by rw [List.take_add_one, er]; rfl
      have hr : r ∈ l := List.mem_of_getElem? er
      refine ⟨_, rfl, _, rfl, _, _, rfl, rfl, _, rfl, ?_⟩
      by_cases c1 : r.1 ≤ v
      · refine if_true_of (decide_eq_true (by omega)) ⟨_, rfl, _, _, rfl, rfl, _, rfl, ?_⟩
        by_cases c2 : v ≤ r.2
        · refine if_true_of (decide_eq_true (by omega)) ?_
          have hq := hQ H1 s1
          rw [inSet_has hr c1 c2] at hq
          exact hq
        · refine if_false_of (decide_eq_false (by omega)) ⟨s1, ⟨_, _, rfl⟩, ?_⟩
          rw [htk, inSet_snoc, hno, decide_eq_false c2, Bool.and_false]
          rfl
      · refine if_false_of (decide_eq_false (by omega)) ⟨_, rfl, if_false_of rfl ⟨s1, ⟨_, _, rfl⟩, ?_⟩⟩
        rw [htk, inSet_snoc, hno, decide_eq_false c1, Bool.false_and]
        rfl
    · rintro σ H1 ⟨s1, ⟨v2, v3, rfl⟩, hno⟩
      exact fin (by rw [List.length_map]; exact ht.len) s1 hno
  · refine .inr ⟨_, rfl, a, rfl, ⟨_, (hK _).1⟩, for_tup (xs := ts.map V.ref) (fun i σ H' => Same H H' ∧ (∃ v2 v3, σ = [some (.ref a), some (.int (v : Nat)), v2, v3]) ∧ PatWords.inSet (l.take i) v = false) ?_ (fun i σ H' _ h => (hK _).1) ?_ ?_⟩
    · exact ⟨fun _ _ h => h, ⟨_, _, rfl⟩, rfl⟩
    · rintro i x σ H1 hx ⟨s1, ⟨v2, v3, rfl⟩, hno⟩
      obtain ⟨t, r, rfl, er, st⟩ := step (hK H1).2 hx
      refine ⟨t, _, rfl, st, rfl, _, _, rfl, _, _, rfl, rfl, ?_⟩
      have htk : l.take (i + 1) = l.take i ++ [r] := by rw [List.take_add_one, er]; rfl
      have hr : r ∈ l := List.mem_of_getElem? er
      refine ⟨_, rfl, _, rfl, _, _, rfl, rfl, _, rfl, ?_⟩
      by_cases c1 : r.1 ≤ v
      · refine if_true_of (decide_eq_true (by omega)) ⟨_, rfl, _, _, rfl, rfl, _, rfl, ?_⟩
        by_cases c2 : v ≤ r.2
        · refine if_true_of (decide_eq_true (by omega)) ?_
          have hq := hQ H1 s1
          rw [inSet_has hr c1 c2] at hq
          exact hq
        · refine if_false_of (decide_eq_false (by omega)) ⟨s1, ⟨_, _, rfl⟩, ?_⟩
          rw [htk, inSet_snoc, hno, decide_eq_false c2, Bool.and_false]
          rfl
      · refine if_false_of (decide_eq_false (by omega)) ⟨_, rfl, if_false_of rfl ⟨s1, ⟨_, _, rfl⟩, ?_⟩⟩
        rw [htk, inSet_snoc, hno, decide_eq_false c1, Bool.false_and]
        rfl
    · rintro σ H1 ⟨s1, ⟨v2, v3, rfl⟩, hno⟩
      exact fin (by rw [List.length_map]; exact (hK H1).2.len) s1 hno
/-! is_word_value -/
@[irreducible] def spWordV : Sp := fun vs H Q _ => ∃ v : Nat, vs = [.int (v : Nat)] ∧ ∀ H', Same H H' → Q (.bl (PatWords.isWord v)) H'
theorem scWordV : FnScope ["value"] ["value"] (defScope (top i_is_word_value)) := ⟨rfl, rfl, rfl, by decide +kernel, rfl, by decide +kernel, by decide +kernel⟩
theorem ok_wordv {f : Addr} {fd : FuncData} (F : Fun K "is_word_value" "is_word_value" (top i_is_word_value) f fd) {d : Addr} {es : Array DictEntry} {n : Nat} {t1 t2 t3 : Addr} (T : TxL w K mg d es n t1 t2 t3) (G1 : GOk P w K mg base CX0 2 "have_value" ["ranges", "value"] (spHave K)) : FnOk P w K mg base CX0 3 f fd ["value"] spWordV := by
  obtain ⟨f1, fd1, gg1, k1, b1, G1⟩ := G1
  refine F.ok scWordV (fun vs H Q E h => ?_) (fun cdv A outer s H vs Q E hr h => ⟨_, pss_one (ps_ret (pe_call G1 hr rfl gg1 k1 b1 .nil pass0 (by exact (pa_cons (pe_ix ix_kdict (pe_glob (v := .ref d) rfl T.at_ rfl) pe_str (fun _ _ => rfl)) (pa_cons (pv 0) pa_nil))))), ?_⟩)
  · unfold spWordV at h
    obtain ⟨_, rfl, _⟩ := h
    rfl
  unfold spWordV at h
  obtain ⟨v, rfl, hQ⟩ := h
  refine ⟨d, _, V.ref t2, rfl, rfl, ⟨es, n, .ref t2, T.dic.at_, T.dic.lit, T.e2, rfl⟩, _, rfl, ?_⟩
  refine have_use (.inr T.r2) fun H' s' => ?_
  rw [word_same v]
  exact hQ H' s'
/-! ### Text -/
/-- a text that has been read, with the first byte of each place -/
structure TxtAt (CT : Addr) (H : Hp) (tx dxt asc afb : Addr) (t fb : List Nat) : Prop where
  at_ : H tx = some (.ins CT dxt [("scalars", .ref asc), ("first_bytes", .ref afb)])
  sc : H asc = some (.lst (iv t))
  fb : H afb = some (.lst (iv fb))
  len : t.length ≤ 128
theorem TxtAt.same {CT : Addr} {H H' : Hp} {tx dxt asc afb : Addr} {t fb : List Nat} (h : TxtAt CT H tx dxt asc afb t fb) (s : Same H H') : TxtAt CT H' tx dxt asc afb t fb := ⟨s _ _ h.at_, s _ _ h.sc, s _ _ h.fb, h.len⟩
structure TxT (K : PySem.W.Frag) (CT : Addr) : Prop where
  cl : Cls K CT
  n1 : NoAttr K CT "scalars"
  n2 : NoAttr K CT "first_bytes"
abbrev sT (j : Nat) : Stmt := inClass (top i_Text) j
theorem tF_sc {asc afb : Addr} : List.lookup ("scalars" : Str) [(("scalars" : Str), V.ref asc), (("first_bytes" : Str), V.ref afb)] = some (.ref asc) := lk_here
theorem tF_fb {asc afb : Addr} : List.lookup ("first_bytes" : Str) [(("scalars" : Str), V.ref asc), (("first_bytes" : Str), V.ref afb)] = some (.ref afb) := (lk_past (by decide +kernel)).trans lk_here
theorem tF_no {m : Str} {asc afb : Addr} (h : (m == ("scalars" : Str)) = false ∧ (m == ("first_bytes" : Str)) = false) : List.lookup m [(("scalars" : Str), V.ref asc), (("first_bytes" : Str), V.ref afb)] = none := (lk_past h.1).trans ((lk_past h.2).trans rfl)
variable {CT : Addr}
@[irreducible] def spEnd (CT : Addr) : Sp := fun vs H Q _ => ∃ (tx dxt asc afb : Addr) (t fb : List Nat), vs = [.ref tx] ∧ TxtAt CT H tx dxt asc afb t fb ∧ Q (.int (t.length : Nat)) H
theorem end_use {tx dxt asc afb : Addr} {t fb : List Nat} (h : TxtAt CT H tx dxt asc afb t fb) (q : Q (.int (t.length : Nat)) H) : spEnd CT [.ref tx] H Q E := by
  unfold spEnd
  exact ⟨tx, dxt, asc, afb, t, fb, rfl, h, q⟩
theorem scEnd : FnScope ["self"] ["self"] (defScope (sT 1)) := ⟨rfl, rfl, rfl, by decide +kernel, rfl, by decide +kernel, by decide +kernel⟩
theorem ok_end {f : Addr} {fd : FuncData} (F : Fun K "end_place" "Text.end_place" (sT 1) f fd) (T : TxT K CT) (hlen : mg "len" = none) : FnOk P w K mg base CX0 2 f fd ["self"] (spEnd CT) := by
  refine F.ok scEnd (fun vs H Q E h => ?_) (fun cdv A outer s H vs Q E hr h => ⟨_, pss_one (ps_ret (pe_callB call_len_seq (by rfl) hlen PySem.boot_len (pa_cons (pe_fld (pv 0) rfl) pa_nil))), ?_⟩)
  · unfold spEnd at h
    obtain ⟨_, _, _, _, _, _, rfl, _⟩ := h
    rfl
  unfold spEnd at h
  obtain ⟨tx, dxt, asc, afb, t, fb, rfl, h, hQ⟩ := h
  refine ⟨_, rfl, tx, CT, dxt, _, _, rfl, h.at_, T.cl, T.n1, tF_sc, asc, _, rfl, .inl (SqL.of h.sc), ?_⟩
  rw [List.length_map]
  exact hQ
/-- a value of w's at a place; before the text none -/
def wordZ (t : List Nat) (i : Int) : Bool := decide (0 ≤ i) && PatWords.wordAt t i.toNat
@[irreducible] def spHasW (CT : Addr) : Sp := fun vs H Q _ => ∃ (tx dxt asc afb : Addr) (t fb : List Nat) (i : Int), vs = [.ref tx, .int i] ∧ TxtAt CT H tx dxt asc afb t fb ∧ i ≤ 1000 ∧ ∀ H', Same H H' → Q (.bl (wordZ t i)) H'
theorem hasw_use {tx dxt asc afb : Addr} {t fb : List Nat} {i : Int} (h : TxtAt CT H tx dxt asc afb t fb) (hi : i ≤ 1000) (q : ∀ H', Same H H' → Q (.bl (wordZ t i)) H') : spHasW CT [.ref tx, .int i] H Q E := by
  unfold spHasW
  exact ⟨tx, dxt, asc, afb, t, fb, i, rfl, h, hi, q⟩
theorem scHasW : FnScope ["self", "place"] ["self", "place"] (defScope (sT 2)) := ⟨rfl, rfl, rfl, by decide +kernel, rfl, by decide +kernel, by decide +kernel⟩
theorem ok_hasw {f : Addr} {fd : FuncData} (F : Fun K "has_word_value" "Text.has_word_value" (sT 2) f fd) (T : TxT K CT) (hlen : mg "len" = none) (G1 : GOk P w K mg base CX0 3 "is_word_value" ["value"] spWordV) : FnOk P w K mg base CX0 4 f fd ["self", "place"] (spHasW CT) := by
  obtain ⟨f1, fd1, gg1, k1, b1, G1⟩ := G1
  refine F.ok scHasW (fun vs H Q E h => ?_) (fun cdv A outer s H vs Q E hr h => ⟨_, pss_one (ps_ret (pe_and (pe_chain op_le op_lt pe_int (pv 1) (pe_callB call_len_seq (by rfl) hlen PySem.boot_len (pa_cons (pe_fld (pv 0) rfl) pa_nil)))
      (pe_one (pe_call G1 hr rfl gg1 k1 b1 .nil pass0 (by exact (pa_cons (pe_ix ix_list (pe_fld (pv 0) rfl) (pv 1) (fun _ _ => rfl)) pa_nil)))))), ?_⟩)
  · unfold spHasW at h
    obtain ⟨_, _, _, _, _, _, _, rfl, _⟩ := h
    rfl
  unfold spHasW at h
  obtain ⟨tx, dxt, asc, afb, t, fb, i, rfl, h, hi, hQ⟩ := h
  refine ⟨_, rfl, _, _, rfl, rfl, _, rfl, ?_⟩
  unfold wordZ at hQ
  by_cases h0 : 0 ≤ i
  · rw [decide_eq_true h0, Bool.true_and] at hQ
    refine if_true_of (decide_eq_true h0) ⟨_, rfl, tx, CT, dxt, _, _, rfl, h.at_, T.cl, T.n1, tF_sc, asc, _, rfl, .inl (SqL.of h.sc), _, _, rfl, rfl, ?_⟩
    rw [List.length_map]
    refine ⟨_, rfl, ?_⟩
    by_cases h1 : i < (t.length : Nat)
    · refine if_true_of (decide_eq_true h1) ?_
      have hil : i.toNat < t.length := by omega
      have et : t[i.toNat]? = some t[i.toNat] := List.getElem?_eq_getElem hil
      have ei : i = ((i.toNat : Nat) : Int) := by omega
      refine ⟨_, rfl, tx, CT, dxt, _, _, rfl, h.at_, T.cl, T.n1, tF_sc, _, rfl, asc, _, _, _, rfl, rfl, SqL.of h.sc, by rw [ei]; exact atI_nat (iv_at et), ?_⟩
      unfold spWordV
      refine ⟨_, rfl, fun H' s' => ?_⟩
      have hq := hQ H' s'
      unfold PatWords.wordAt at hq
      rw [et] at hq
      exact hq
    · refine if_false_of (decide_eq_false h1) ?_
      have hq := hQ H (fun _ _ h => h)
      unfold PatWords.wordAt at hq
      rw [List.getElem?_eq_none (by omega)] at hq
      exact hq
  · rw [decide_eq_false h0, Bool.false_and] at hQ
    exact if_false_of (decide_eq_false h0) ⟨_, rfl, if_false_of rfl (hQ H (fun _ _ h => h))⟩
@[irreducible] def spEdge (CT : Addr) : Sp := fun vs H Q _ => ∃ (tx dxt asc afb : Addr) (t fb : List Nat) (i : Nat), vs = [.ref tx, .int (i : Nat)] ∧ TxtAt CT H tx dxt asc afb t fb ∧ i ≤ 1000 ∧ ∀ H', Same H H' → Q (.bl (PatWords.isEdge t i)) H'
theorem edge_use {tx dxt asc afb : Addr} {t fb : List Nat} {i : Nat} (h : TxtAt CT H tx dxt asc afb t fb) (hi : i ≤ 1000) (q : ∀ H', Same H H' → Q (.bl (PatWords.isEdge t i)) H') : spEdge CT [.ref tx, .int (i : Nat)] H Q E := by
  unfold spEdge
  exact ⟨tx, dxt, asc, afb, t, fb, i, rfl, h, hi, q⟩
theorem scEdge : FnScope ["self", "place"] ["self", "place"] (defScope (sT 3)) := ⟨rfl, rfl, rfl, by decide +kernel, rfl, by decide +kernel, by decide +kernel⟩
theorem bl_ne (a b : Bool) : (!decide (V.bl a = V.bl b)) = (a != b) := by cases a <;> cases b <;> decide
theorem edge_is (t : List Nat) (i : Nat) : (wordZ t ((i : Int) - 1) != wordZ t (i : Nat)) = PatWords.isEdge t i := by
  unfold wordZ PatWords.isEdge
  by_cases c : 0 < i
  · have e1 : ((i : Int) - 1).toNat = i - 1 := by omega
    have e2 : ((i : Int)).toNat = i := by omega
    rw [decide_eq_true c, decide_eq_true (by omega : (0 : Int) ≤ (i : Int) - 1), decide_eq_true (by omega : (0 : Int) ≤ (i : Int)), e1, e2, Bool.true_and, Bool.true_and]
  · have e2 : ((i : Int)).toNat = i := by omega
    rw [decide_eq_false c, decide_eq_false (by omega : ¬ (0 : Int) ≤ (i : Int) - 1), decide_eq_true (by omega : (0 : Int) ≤ (i : Int)), e2, Bool.false_and, Bool.false_and, Bool.true_and]
theorem ok_edge {f : Addr} {fd : FuncData} (F : Fun K "is_word_edge" "Text.is_word_edge" (sT 3) f fd) (T : TxT K CT) (M1 : MOk P w K mg base CX0 CT 4 "has_word_value" ["self", "place"] (spHasW CT)) : FnOk P w K mg base CX0 5 f fd ["self", "place"] (spEdge CT) := by
  obtain ⟨f1, fd1, m1, b1, G1⟩ := M1
  refine F.ok scEdge (fun vs H Q E h => ?_) (fun cdv A outer s H vs Q E hr h => ⟨_, pss_one (ps_ret (pe_cmpR op_ne (pe_meth (pv 0) T.cl m1 G1 hr b1 .nil pass0 (by exact (pa_cons (pe_op op_sub (pv 1) pe_int) pa_nil))) (pe_meth (pv 0) T.cl m1 G1 hr b1 .nil pass0 (by exact (pa_cons (pv 1) pa_nil))) (nomark _))), ?_⟩)
  · unfold spEdge at h
    obtain ⟨_, _, _, _, _, _, _, rfl, _⟩ := h
    rfl
  unfold spEdge at h
  obtain ⟨tx, dxt, asc, afb, t, fb, i, rfl, h, hi, hQ⟩ := h
  refine ⟨_, rfl, tx, dxt, _, rfl, h.at_, tF_no (by decide +kernel), _, rfl, _, _, rfl, rfl, ?_⟩
  refine hasw_use h (by omega) fun H1 s1 => ?_
  have h1 := h.same s1
  refine ⟨_, rfl, tx, dxt, _, rfl, h1.at_, tF_no (by decide +kernel), _, rfl, ?_⟩
  refine hasw_use h1 (by omega) fun H2 s2 => ?_
  refine ⟨rfl, ?_⟩
  rw [bl_ne, edge_is]
  exact hQ H2 (Same.trans s1 s2)
@[irreducible] def spInB (CT : Addr) : Sp := fun vs H Q _ => ∃ (tx dxt asc afb : Addr) (t fb : List Nat) (i j b e : Nat), vs = [.ref tx, .int (i : Nat), .int (j : Nat)] ∧ TxtAt CT H tx dxt asc afb t fb ∧ fb[i]? = some b ∧ fb[j]? = some e ∧ ∀ H' p, Same H H' → H p = none → H' p = some (.lst [.int (b : Nat), .int (e : Nat)]) → Q (.ref p) H'
theorem inb_use {tx dxt asc afb : Addr} {t fb : List Nat} {i j b e : Nat} (h : TxtAt CT H tx dxt asc afb t fb) (hb : fb[i]? = some b) (he : fb[j]? = some e) (q : ∀ H' p, Same H H' → H p = none → H' p = some (.lst [.int (b : Nat), .int (e : Nat)]) → Q (.ref p) H') : spInB CT [.ref tx, .int (i : Nat), .int (j : Nat)] H Q E := by
  unfold spInB
  exact ⟨tx, dxt, asc, afb, t, fb, i, j, b, e, rfl, h, hb, he, q⟩
theorem scInB : FnScope ["self", "begin", "end"] ["self", "begin", "end"] (defScope (sT 4)) := ⟨rfl, rfl, rfl, by decide +kernel, rfl, by decide +kernel, by decide +kernel⟩
theorem ok_inb {f : Addr} {fd : FuncData} (F : Fun K "in_bytes" "Text.in_bytes" (sT 4) f fd) (T : TxT K CT) : FnOk P w K mg base CX0 2 f fd ["self", "begin", "end"] (spInB CT) := by
  refine F.ok scInB (fun vs H Q E h => ?_) (fun cdv A outer s H vs Q E hr h => ⟨_, pss_one (ps_ret (pe_lst (pa_cons (pe_ix ix_list (pe_fld (pv 0) rfl) (pv 1) (fun _ _ => rfl)) (pa_cons (pe_ix ix_list (pe_fld (pv 0) rfl) (pv 2) (fun _ _ => rfl)) pa_nil)))), ?_⟩)
  · unfold spInB at h
    obtain ⟨_, _, _, _, _, _, _, _, _, _, rfl, _⟩ := h
    rfl
  unfold spInB at h
  obtain ⟨tx, dxt, asc, afb, t, fb, i, j, b, e, rfl, h, hb, he, hQ⟩ := h
  refine ⟨_, rfl, tx, CT, dxt, _, _, rfl, h.at_, T.cl, T.n2, tF_fb, _, rfl, afb, _, _, _, rfl, rfl, SqL.of h.fb, atI_nat (iv_at hb), ?_⟩
  refine ⟨_, rfl, tx, CT, dxt, _, _, rfl, h.at_, T.cl, T.n2, tF_fb, _, rfl, afb, _, _, _, rfl, rfl, SqL.of h.fb, atI_nat (iv_at he), ?_⟩
  exact ⟨by show 2 ≤ sizeLine; decide, fun p hp => hQ _ p (Same.upd hp) hp upd_same⟩
/-! ### Text(given) -/
/-- the bytes of the text's places -/
def fbOf (t : List Nat) : List Nat := (List.range (t.length + 1)).map (PatSpec.byteAt t)
@[irreducible] def spTInit (K : PySem.W.Frag) (CT CF : Addr) : Sp := fun vs H Q E => ∃ (tx dxt ag : Addr) (g : List UInt8), vs = [.ref tx, .ref ag] ∧ H tx = some (.ins CT dxt []) ∧ SqL K H ag (gv g) ∧ g.length ≤ 128 ∧ (∃ F, Same F H ∧ F tx = none ∧ SqL K F ag (gv g)) ∧
  match PatUtf.scalars 0 g with
  | .error _ => ∀ e : Fault, Out CF e E
  | .ok t => ∀ H' asc afb, TxtAt CT H' tx dxt asc afb t (fbOf t) → Kept H H' tx → Q .non H'
theorem scTI : FnScope ["self", "given", "found"] ["self", "given"] (defScope (sT 0)) := ⟨rfl, rfl, rfl, by decide +kernel, rfl, by decide +kernel, by decide +kernel⟩
/-- one value more -/
theorem scalars_step {f p : Nat} {b : List UInt8} (hb : b ≠ []) (hf : b.length ≤ f) : PatUtf.scalarsFrom f p b = match PatWords.valueP p b with
    | .error _ => (match PatUtf.scalarAt p b with
      | .error q => .error q
      | .ok _ => .error 0)
    | .ok (v, r, q) => (PatUtf.scalarsFrom (f - 1) q r).map fun l => v :: l := by
  cases b with
  | nil => exact absurd rfl hb
  | cons c b =>
    obtain ⟨f, rfl⟩ : ∃ k, f = k + 1 := ⟨f - 1, by rw [List.length_cons] at hf; omega⟩
    rw [PatUtf.scalarsFrom]
    unfold PatWords.valueP
    cases PatUtf.scalarAt p (c :: b) with
    | error q => rfl
    | ok y => rfl
    all_goals exact fun h => nomatch h
theorem ok_tinit {f : Addr} {fd : FuncData} (F : Fun K "__init__" "Text.__init__" (sT 0) f fd) (T : TxT K CT) (hlen : mg "len" = none) (G1 : GOk P w K mg base (L2N.CX P w) 3 "scalar_at" ["given", "place"] (spSA K CF)) : FnOk P w K mg base (L2N.CX P w) 4 f fd ["self", "given"] (spTInit K CT CF) := by
  obtain ⟨f1, fd1, gg1, k1, b1, G1⟩ := G1
  refine F.okN scTI (fun vs H Q E h => ?_) (fun cdv A outer s H vs Q E hr h => ⟨_, pss_cons (ps_fld (pv 0) (pe_lst pa_nil) rfl) (pss_cons (ps_fld (pv 0) (pe_lst (pa_cons pe_int pa_nil)) rfl)
      (pss_one (ps_while (passes_of rfl) (pt_cmpR op_lt (pe_ix ix_list (pe_fld (pv 0) rfl) (pe_un un_neg pe_int) (fun _ _ => rfl)) (pe_callB call_len_seq (by rfl) hlen PySem.boot_len (pa_cons (pv 1) pa_nil)) (nomark _))
        (pss_cons (ps_set (i := 2) scTI.nd rfl (Or.inl rfl) (pe_call G1 hr rfl gg1 k1 b1 .nil (L2N.passes_call (L2N.takes_of rfl rfl rfl rfl) (fun _ _ _ _ h => h)) (by exact (pa_cons (pv 1) (pa_cons (pe_ix ix_list (pe_fld (pv 0) rfl) (pe_un un_neg pe_int) (fun _ _ => rfl)) pa_nil)))))
        (pss_cons (ps_expr (pe_bm PySem.F.plainAttrs_list PySem.F.slot_list_append PySem.F.type_list_append mt_append (pe_fld (pv 0) rfl) (by exact (pa_cons (pe_ix ix_tup (pv 2) pe_int (fun _ _ => rfl)) pa_nil))))
        (pss_one (ps_expr (pe_bm PySem.F.plainAttrs_list PySem.F.slot_list_append PySem.F.type_list_append mt_append (pe_fld (pv 0) rfl) (by exact (pa_cons (pe_ix ix_tup (pv 2) pe_int (fun _ _ => rfl)) pa_nil)))))))))), ?_⟩)
  · unfold spTInit at h
    obtain ⟨_, _, _, _, rfl, _⟩ := h
    rfl
  unfold spTInit at h
  obtain ⟨tx, dxt, ag, g, rfl, hx, sq, hl, ⟨F0, sF, fx, sqF⟩, hQ⟩ := h
  refine ⟨by show 0 ≤ sizeLine; decide, fun asc hsc => ⟨_, rfl, tx, CT, dxt, _, rfl, (upd_ne (ne_of_none hx hsc)).trans hx, T.cl, T.n1, by show 0 < 1000; decide, ?_⟩⟩
  have nsx : asc ≠ tx := (ne_of_none hx hsc).symm
  refine ⟨by show 1 ≤ sizeLine; decide, fun afb hfb => ?_⟩
  have nfx : afb ≠ tx := fun e => by rw [e, upd_same] at hfb; cases hfb
  have nfs : afb ≠ asc := fun e => by rw [e, upd_ne nsx, upd_same] at hfb; cases hfb
  have hfb0 : H afb = none := by
    rw [upd_ne nfx, upd_ne nfs] at hfb
    exact hfb
  refine ⟨_, rfl, tx, CT, dxt, _, rfl, (upd_ne nfx.symm).trans upd_same, T.cl, T.n2, by show 1 < 1000; decide, ?_⟩
  rw [nf1 (by decide +kernel)]
  obtain ⟨RR, hRR⟩ : ∃ RR, PatUtf.scalars 0 g = RR := ⟨_, rfl⟩
  rw [hRR] at hQ
  refine ⟨fun m σ H' => ∃ (ts : List Nat) (p f : Nat), m = g.length - p ∧ (∃ v2, σ = [some (.ref tx), some (.ref ag), v2]) ∧ H' tx = some (.ins CT dxt [("scalars", .ref asc), ("first_bytes", .ref afb)]) ∧ H' asc = some (.lst (iv ts)) ∧ H' afb = some (.lst (iv (fbOf ts))) ∧ Kept H H' tx ∧ p ≤ g.length ∧ PatUtf.utf8 ts = g.take p ∧ ts.length ≤ p ∧ (g.drop p).length ≤ f ∧
    (match PatUtf.scalarsFrom f p (g.drop p) with
      | .error _ => ∃ q, RR = .error q
      | .ok l => RR = .ok (ts ++ l)), ⟨_, [], 0, g.length, rfl, ⟨_, rfl⟩, upd_same, ?_, ?_, ?_, Nat.zero_le _, rfl, Nat.zero_le _, by simp, ?_⟩, ?_⟩
  · rw [upd_ne nsx, upd_ne nfs.symm, upd_ne nsx]
    exact upd_same
  · rw [upd_ne nfx]
    exact upd_same
  · intro b o e n
    rw [upd_ne n, upd_ne (ne_of_none e hfb0), upd_ne n, upd_ne (ne_of_none e hsc)]
    exact e
  · have e : PatUtf.scalarsFrom g.length 0 (g.drop 0) = RR := hRR
    rw [e]
    cases RR with
    | error q => exact ⟨q, rfl⟩
    | ok l => rfl
  rintro m σ H1 ⟨ts, p, f, rfl, ⟨v2, rfl⟩, e1, e2, e3, k1, hp, hu, htp, hf, hR⟩
  have hlen : (PatUtf.utf8 ts).length = p := by rw [hu, List.length_take]; omega
  have hlast : iv (fbOf ts) = iv ((List.range ts.length).map (PatSpec.byteAt ts)) ++ [V.int ((p : Nat) : Int)] := by
    unfold fbOf
    rw [List.range_succ, List.map_append]
    unfold iv
    rw [List.map_append]
    congr 1
    show [V.int ((PatSpec.byteAt ts ts.length : Nat) : Int)] = _
    rw [Utf.byteAt_all, hlen]
  have sq1 : SqL K H1 ag (gv g) := sql_same sqF (fun b o e => k1 b o (sF b o e) (fun x => by rw [x, fx] at e; cases e))
  refine ⟨_, rfl, tx, CT, dxt, _, _, rfl, e1, T.cl, T.n2, tF_fb, _, rfl, afb, _, _, _, rfl, rfl, SqL.of e3, by rw [hlast]; exact atI_last _ _, ?_⟩
  refine ⟨_, rfl, ag, _, rfl, .inl sq1, _, _, rfl, rfl, _, rfl, ?_⟩
  by_cases c : p < g.length
  · refine if_true_of (decide_eq_true (by rw [gv_len]; omega)) ?_
    have hne : g.drop p ≠ [] := fun e => by
      have := congrArg List.length e
      rw [List.length_drop, List.length_nil] at this
      omega
    refine ⟨fun σ' H' => ∃ (ts : List Nat) (q f : Nat), p < q ∧ (∃ v2, σ' = [some (.ref tx), some (.ref ag), v2]) ∧ H' tx = some (.ins CT dxt [("scalars", .ref asc), ("first_bytes", .ref afb)]) ∧ H' asc = some (.lst (iv ts)) ∧ H' afb = some (.lst (iv (fbOf ts))) ∧ Kept H H' tx ∧ q ≤ g.length ∧ PatUtf.utf8 ts = g.take q ∧ ts.length ≤ q ∧ (g.drop q).length ≤ f ∧
      (match PatUtf.scalarsFrom f q (g.drop q) with
        | .error _ => ∃ q, RR = .error q
        | .ok l => RR = .ok (ts ++ l)), ?_, ?_⟩
    · rintro σ' H' ⟨ts', q, f', hlt, x⟩
      exact ⟨g.length - q, by omega, ts', q, f', rfl, x⟩
    refine ⟨_, rfl, _, rfl, tx, CT, dxt, _, _, rfl, e1, T.cl, T.n2, tF_fb, _, rfl, afb, _, _, _, rfl, rfl, SqL.of e3, by rw [hlast]; exact atI_last _ _, ?_⟩
    rw [scalars_step hne hf] at hR
    refine sa_use sq1 c (by omega) ?_
    cases ev : PatWords.valueP p (g.drop p) with
    | error x =>
      rw [ev] at hR
      dsimp only at hR ⊢
      have hRe : ∃ q, RR = .error q := by
        cases es : PatUtf.scalarAt p (g.drop p) with
        | error q => rw [es] at hR; exact hR
        | ok y => rw [es] at hR; exact hR
      obtain ⟨q, rfl⟩ := hRe
      exact hQ x
    | ok y =>
      obtain ⟨v, r, q⟩ := y
      obtain ⟨hpq, hql, hr⟩ := valueP_drop ev
      rw [ev] at hR
      dsimp only at hR ⊢
      intro H2 tt s2 hn ht
      have e1' := s2 _ _ e1
      have e2' := s2 _ _ e2
      have e3' := s2 _ _ e3
      have htx : tt ≠ asc := (ne_of_none e2 hn).symm
      have nxs : tx ≠ asc := nsx.symm
      -- what is read is written so
      have hone : g.drop p = PatUtf.utf8One v ++ r := by
        unfold PatWords.valueP at ev
        cases es : PatUtf.scalarAt p (g.drop p) with
        | error q => rw [es] at ev; cases ev
        | ok y =>
          obtain ⟨v', r'⟩ := y
          rw [es] at ev
          cases ev
          exact Utf.scalarAt_utf8 es
      have hol : (PatUtf.utf8One v).length = q - p := by
        have := congrArg List.length hone
        rw [List.length_append, List.length_drop, hr, List.length_drop] at this
        omega
      have hu' : PatUtf.utf8 (ts ++ [v]) = g.take q := by
        rw [Utf.utf8_append, hu]
        have e5 : g.take q = g.take p ++ (g.drop p).take (q - p) := by
          have := List.take_add (l := g) (i := p) (j := q - p)
          rw [show p + (q - p) = q by omega] at this
          exact this
        rw [e5, hone, ← hol, List.take_left]
        congr 1
        show PatUtf.utf8 [v] = _
        unfold PatUtf.utf8
        simp
      have hfb' : fbOf (ts ++ [v]) = fbOf ts ++ [q] := by
        unfold fbOf
        rw [List.length_append, List.length_singleton, List.range_succ, List.map_append]
        congr 1
        · refine List.map_congr_left fun i hi => ?_
          have hi' : i ≤ ts.length := by have := List.mem_range.mp hi; omega
          unfold PatSpec.byteAt
          rw [List.take_append_of_le_length hi']
        · show [PatSpec.byteAt (ts ++ [v]) (ts.length + 1)] = _
          have : ts.length + 1 = (ts ++ [v]).length := by rw [List.length_append]; rfl
          rw [this, Utf.byteAt_all, hu', List.length_take]
          congr 1
          omega
      have e6 : upd H2 asc (.lst (iv ts ++ [V.int (v : Nat)])) tx = some (.ins CT dxt [("scalars", .ref asc), ("first_bytes", .ref afb)]) := (upd_ne nxs).trans e1'
      have e7 : upd H2 asc (.lst (iv ts ++ [V.int (v : Nat)])) afb = some (.lst (iv (fbOf ts))) := (upd_ne nfs).trans e3'
      refine ⟨_, rfl, tx, CT, dxt, _, _, rfl, e1', T.cl, T.n1, tF_sc, .inl ⟨rfl, _, SqL.of e2'⟩, _, rfl, tt, _, _, _, rfl, rfl, SqT.of ht, rfl, asc, _, _, rfl, rfl, e2', by rw [List.length_map]; exact small1000 (by omega), ?_⟩
      refine ⟨_, rfl, tx, CT, dxt, _, _, rfl, e6, T.cl, T.n2, tF_fb, .inl ⟨rfl, _, SqL.of e7⟩, _, rfl, tt, _, _, _, rfl, rfl, SqT.of ((upd_ne htx).trans ht), rfl, afb, _, _, rfl, rfl, e7, ?_, ?_⟩
      · unfold fbOf
        rw [List.length_map, List.length_map, List.length_range]
        exact small1000 (by omega)
      · refine ⟨ts ++ [v], q, f - 1, hpq, ⟨_, rfl⟩, (upd_ne nfx.symm).trans e6, ?_, ?_, ?_, hql, hu', ?_, ?_, ?_⟩
        · rw [upd_ne nfs.symm, upd_same, iv_snoc]
        · rw [upd_same, hfb', iv_snoc]
        · intro b o e n
          have h2 := s2 _ _ (k1 b o e n)
          rw [upd_ne (ne_of_none e hfb0), upd_ne (ne_of_none e hsc)]
          exact h2
        · rw [List.length_append, List.length_singleton]
          omega
        · rw [List.length_drop] at hf ⊢
          omega
        · rw [hr] at hR
          cases es : PatUtf.scalarsFrom (f - 1) q (g.drop q) with
          | error x => rw [es] at hR; exact hR
          | ok l =>
            rw [es] at hR
            have hR : RR = .ok (ts ++ (v :: l)) := hR
            show RR = .ok ((ts ++ [v]) ++ l)
            rw [hR, List.append_assoc]
            rfl
  · refine if_false_of (decide_eq_false (by rw [gv_len]; omega)) ?_
    have hpl : p = g.length := by omega
    rw [hpl, List.drop_length] at hR
    have e4 : PatUtf.scalarsFrom f g.length [] = .ok [] := by cases f <;> rfl
    rw [e4] at hR
    have hR : RR = .ok (ts ++ []) := hR
    rw [List.append_nil] at hR
    subst hR
    exact hQ H1 asc afb ⟨e1, e2, e3, by omega⟩ k1
end
end Pat
end

section
/-! list(reversed(xs)) -/
namespace LRv
open PySem PySem.Spec PyProof.Rows L2 RT
section
variable {prog : Program} {w : World} {A : Around} {E : Value → Shared → Prop} {s : Shared}
/-- the items of an iterator over a list from its end are put behind those of an empty list S -/
theorem extend_lri {R : Result → Shared → Prop} {it l S : Addr} {xs : Array Value} (res : Value) (noH : A.handled = none) (iti : s.heap.IsRevIter it l ((xs.size : Int) - 1)) (lst : s.heap.IsList l xs) (n1 : l ≠ it) (n2 : S ≠ it) (n3 : S ≠ l) (few : xs.size ≤ sizeLine) {c0 : Nat}
    (new : s.heap.get? S = some { cls := .type "list", data := .seq #[] c0 })
    (next : ∀ s' acc c', Moved (S :: [it]) (fun g g' => g' = g) s s' → s'.heap.get? S = some { cls := .type "list", dict := none, data := .seq acc c', slots := #[] } → ItemsOf (fun i v => xs[xs.size - 1 - i]? = some v) acc xs.size → R (.ok (.ret res)) s') :
    wpAny (model prog w) A.in1 (Builtin.List.listExtendWith (.ref S) (.ref it) res) (fun fin s' => match fin with | .done f => R (.ok f) s' | .again c' => c'.quiet = true ∧ codeAny (model prog w) A c' R s') (fun e s' => R (.error e) s') s := by
  have walk := (Walks.listRev (prog := prog) (w := w) (A := A.in1) noH it l n1 xs).toS
  have apart : S ∉ [it, l] := by simp only [List.mem_cons, List.not_mem_nil, or_false, not_or]; exact ⟨n2, n3⟩
  have kind : s.TypeIs (.ref it) "list_reverseiterator" := iti.typeIs
  have other : Builtin.List.listSameRef (.ref S) (.ref it) = false := by simp [Builtin.List.listSameRef, n2]
  unfold Builtin.List.listExtendWith
  refine wpAny_bind (wpAny_typeOf kind ?_)
  rw [if_neg (by rw [other]; decide)]
  refine wpAny_bind (wpAny_pyIter_revIter iti ?_); refine wpAny_bind (wpAny_holding ?_)
  unfold Builtin.List.listLengthHint; refine wpAny_bind (wpAny_specialOf kind nolen_lri ?_)
  show wpAny _ A.in1 (specialOf (Value.ref it) (Str.ofString "__length_hint__") >>= fun _ => _) _ _ _
  refine wpAny_bind (wpAny_specialOf kind hint_lri ?_)
  generalize named : ("list_reverseiterator.__length_hint__" : String) = id1
  wp_delta
  rw [show splitId id1 = some ("list_reverseiterator", "__length_hint__") from by subst named; decide +kernel]
  subst named
  refine wpAny_bind (wpAny_isInstance (b := true) kind (by rw [isSubtype_type]; kernel_rfl) ?_); refine wpAny_pure ?_
  rw [if_neg (by decide)]
  have first : ((xs.size : Nat) : Int) - 1 - ((0 : Nat) : Int) = (xs.size : Int) - 1 := by omega
  refine wpAny_pure ⟨plainId_quiet F.plain_extend_loop _, codeAny_extend_loopS walk few _ apart _ xs.size 0 _ _ _ rfl (Nat.zero_le _) ⟨Nat.zero_le _, by rw [first]; exact iti, lst⟩ new (ItemsOf.nil _) fun s' acc c' moved there all => ?_⟩
  exact next s' acc c' moved there all
theorem call_list_lri {Q : Value → Shared → Prop} {it l : Addr} {xs : Array Value} (noH : A.handled = none) (iti : s.heap.IsRevIter it l ((xs.size : Int) - 1)) (lst : s.heap.IsList l xs) (n1 : l ≠ it) (few : xs.size ≤ sizeLine)
    (next : ∀ (h' : Heap) (tk : Nat) (acc : Array Value) (c' : Nat), (∀ b o, b ≠ it → s.heap.get? b = some o → h'.get? b = some o) → h'.get? s.heap.objs.size = some { cls := .type "list", dict := none, data := .seq acc c', slots := #[] } → ItemsOf (fun i v => xs[xs.size - 1 - i]? = some v) acc xs.size →
      Q (.ref s.heap.objs.size) { s with heap := h', toks := tk }) : wpAny (model prog w) A (call (.type "list") [.ref it]) Q E s := by
  obtain ⟨oi, hoi, _⟩ := id iti
  obtain ⟨ol, hol, _⟩ := id lst
  have n2 : s.heap.objs.size ≠ it := Nat.ne_of_gt (Heap.lt_size hoi)
  have n3 : s.heap.objs.size ≠ l := Nat.ne_of_gt (Heap.lt_size hol)
  refine callType_codes (Q₁ := fun y s1 => y = .ref s.heap.objs.size ∧ s1 = { s with heap := s.heap.push { cls := .type "list", data := .seq #[] } }) F.called_list (F.typeCall_list_1 _) F.entry_list_init (code_list_new _ ⟨rfl, rfl⟩) ?_
  rintro y s1 ⟨rfl, rfl⟩
  have at0 : (s.heap.push { cls := .type "list", data := .seq #[] }).get? s.heap.objs.size = some { cls := .type "list", data := .seq #[] } := Heap.get?_push_size _ rfl
  refine ⟨⟨_, at0, rfl⟩, F.args_list_init_2 _ _, ?_⟩
  show wpAny _ A.in1.in1 (do let before ← Builtin.List.listItems (.ref s.heap.objs.size); Builtin.List.listUpdate (.ref s.heap.objs.size) (fun _ => #[]); letGo before.toList.reverse; Builtin.List.listExtendWith (.ref s.heap.objs.size) (.ref it) .none) _ _ _
  refine wpAny_bind ?_; unfold Builtin.List.listItems; refine wpAny_bind (wpAny_seqItems at0 rfl (wpAny_pure ?_))
  show wpAny _ A.in1.in1 (updateSeq s.heap.objs.size (fun _ => #[]) >>= fun _ => letGo (#[] : Array Value).toList.reverse >>= fun _ => Builtin.List.listExtendWith (.ref s.heap.objs.size) (.ref it) .none) _ _ _
  refine wpAny_bind (wpAny_updateSeq at0 rfl ?_); refine wpAny_bind (wpAny_letGo ?_)
  have at1 := Heap.get?_update_self (Obj.mapSeq (fun _ => (#[] : Array Value))) at0 rfl
  have kept1 : ∀ b o, s.heap.get? b = some o → ((s.heap.push { cls := .type "list", data := .seq #[] }).update s.heap.objs.size (Obj.mapSeq (fun _ => (#[] : Array Value)))).get? b = some o := fun b o e =>
    (Heap.get?_update_other _ _ (Ne.symm (Nat.ne_of_lt (Heap.lt_size e)))).trans (Heap.get?_push_of_some _ e)
  refine extend_lri (A := A.in1) .none noH (iti.at fun o e => kept1 it o e) ?_ n1 n2 n3 few at1 ?_
  · obtain ⟨o, ho, r⟩ := lst
    exact ⟨o, kept1 _ _ ho, r⟩
  · intro s' acc c' moved there all
    refine ⟨rfl, ?_⟩
    have back := Moved.eq_with moved
    rw [back]
    refine next s'.heap s'.toks acc c' (fun b o hb e => moved.heap b o (fun m => ?_) (kept1 b o e)) there all
    rcases List.mem_cons.mp m with m | m
    · exact Nat.lt_irrefl _ (by have := Heap.lt_size e; rw [m] at this; exact this)
    · exact hb (List.mem_singleton.mp m)
end
section
variable {X : Cx}
def tListRev (K : PySem.W.Frag) (te : TE) : TE := fun σ H Q => te σ H fun v H1 => ∃ (a : Addr) (xs : List V), v = .ref a ∧ SqL K H1 a xs ∧ ∀ p, H1 p = none → Q (.ref p) (upd H1 p (.lst xs.reverse))
theorem pe_listRev {e : Expr} {te : TE} {p p2 pos pos2 : Pos} (hc : X.calm = true) (hg : Gl X "list") (hm : X.mg "list" = none) (hg2 : Gl X "reversed") (hm2 : X.mg "reversed" = none) (he : PE X e te)
    (one : starEach [e] X.env = (false, eval e X.env) :: starEach [] X.env := by rfl)
    (two : starEach [.Call (.Name "reversed" p2) [e] [] pos2] X.env = (false, eval (.Call (.Name "reversed" p2) [e] [] pos2) X.env) :: starEach [] X.env := by rfl) :
    PE X (.Call (.Name "list" p) [.Call (.Name "reversed" p2) [e] [] pos2] [] pos) (tListRev X.K te) := by
  constructor
  intro pins s σ H Q I h
  refine Call_ (ld_blt I hg hm boot_list (PyProof.Rows.callWith_type1 (args_cons (Call_ (ld_blt I hg2 hm2 PyProof.Rows.boot_reversed (PyProof.Rows.callWith_type1 (args_cons (thn (he.run pins s σ H _ I h) fun u s1 ⟨v, H1, I1, r1, q1⟩ => args_nil ?_) one) one rfl))) two) two rfl))
  obtain ⟨a, xs, rfl, hq, q⟩ := q1
  obtain rfl : u = Value.ref a := r1
  obtain ⟨its, rv, pl, hz⟩ := I1.list hq
  have lst := pl.isList
  refine call_reversed_list lst (args_nil ?_)
  obtain ⟨ol, hol, _⟩ := id lst
  have apart : a ≠ s1.heap.objs.size := Nat.ne_of_lt (Heap.lt_size hol)
  have few : its.toArray.size ≤ sizeLine := by rw [List.size_toArray, ← rv.length]; exact hz
  have kept1 : ∀ b o, s1.heap.get? b = some o → (s1.heap.push (revObj a ((its.toArray.size : Int) - 1))).get? b = some o := fun b o e => Heap.get?_push_of_some _ e
  have I2 : Inv X pins σ H1 { s1 with heap := s1.heap.push (revObj a ((its.toArray.size : Int) - 1)) } := I1.kept (t' := s1.toks) kept1
  have size2 : (s1.heap.push (revObj a ((its.toArray.size : Int) - 1))).objs.size = s1.heap.objs.size + 1 := by simp [Heap.push]
  refine call_list_lri (s := { s1 with heap := s1.heap.push (revObj a ((its.toArray.size : Int) - 1)) }) (I1.ok.hd hc) ⟨_, Heap.get?_push_size _ rfl, rfl, rfl⟩ (lst.push _) apart few fun h' tk acc c' hk there all => ?_
  have fresh : H1 (s1.heap.push (revObj a ((its.toArray.size : Int) - 1))).objs.size = none := I2.hok.fresh (Nat.le_refl _)
  have differ : s1.heap.objs.size ≠ (s1.heap.push (revObj a ((its.toArray.size : Int) - 1))).objs.size := by rw [size2]; omega
  have I3 : Inv X pins σ (upd H1 (s1.heap.push (revObj a ((its.toArray.size : Int) - 1))).objs.size (.lst xs.reverse)) { s1 with heap := (s1.heap.push (revObj a ((its.toArray.size : Int) - 1))).push { cls := .type "list", dict := none, data := .seq acc c', slots := #[] }, toks := s1.toks } :=
    I2.laid (t' := s1.toks) (fun b o e => Heap.get?_push_of_some _ e) (Nat.le_refl _) (show ObjOk X.prog X.w _ _ _ (.lst xs.reverse) from ⟨by rw [List.length_reverse]; exact hz, acc.toList, c', vals_rev rv all, by rw [Array.toArray_toList]; exact Heap.get?_push_size _ rfl⟩)
  obtain ⟨f0, f1, f2, f3, f4, f5⟩ := I1.fpOk (H' := upd H1 (s1.heap.push (revObj a ((its.toArray.size : Int) - 1))).objs.size (.lst xs.reverse)) (b := s1.heap.objs.size) (Nat.le_refl _) (by rw [upd_ne differ]; exact I1.hok.fresh (Nat.le_refl _))
  refine ⟨.ref _, upd H1 _ (.lst xs.reverse), I3.turned (t' := tk) (fun b o hb e => ?_) f0 f1 f3 f4 f5, rfl, q _ fresh⟩
  by_cases c : b = (s1.heap.push (revObj a ((its.toArray.size : Int) - 1))).objs.size
  · subst c
    rw [there]
    rw [Heap.get?_push_size _ rfl] at e
    exact e
  · refine hk b o hb ?_
    rw [Heap.get?_push_ne _ _ _ c] at e
    exact e
end
end LRv
end

section
namespace Pat
open PySem PySem.Spec PyProof.Rows L2
open PatWords (Name)
open Ways (WF FwdW FitsW FitAll oneWF seqsWF altsWF repWF capWF)
/-! ### how far parts come -/
inductive Tag where
  | o | s | r | c | p | k
def Cs.tag (cs : Cs) : Tag → Addr
  | .o => cs.o
  | .s => cs.s
  | .r => cs.r
  | .c => cs.c
  | .p => cs.p
  | .k => cs.k
def tagOf : Kd → Tag
  | .one _ _ _ => .o
  | .stand _ => .s
  | .row _ _ => .r
  | .choice _ _ => .c
  | .rep _ _ _ => .p
  | .cap _ _ => .k
theorem at_tag (cs : Cs) (k : Kd) : cs.at k = cs.tag (tagOf k) := by cases k <;> rfl
theorem TxN.cl {K : PySem.W.Frag} {cs : Cs} (T : TxN K cs) (τ : Tag) : Cls K (cs.tag τ) := by
  cases τ
  · exact T.clo
  · exact T.cls
  · exact T.clr
  · exact T.clc
  · exact T.clp
  · exact T.clk
theorem TxN.re {K : PySem.W.Frag} {cs : Cs} (T : TxN K cs) (τ : Tag) : NoAttr K (cs.tag τ) "reach" := by
  cases τ
  · exact T.o3
  · exact T.s2
  · exact T.r2
  · exact T.c2
  · exact T.p4
  · exact T.k3
theorem nF_reach (rg ra : Addr) (k : Kd) : (nF rg ra k).lookup ("reach" : Str) = some (.ref rg) := by
  cases k with
  | one ar l neg => exact (lk_past (by decide +kernel)).trans ((lk_past (by decide +kernel)).trans lk_here)
  | stand z => exact (lk_past (by decide +kernel)).trans lk_here
  | row al bs => exact (lk_past (by decide +kernel)).trans lk_here
  | choice al bs => exact (lk_past (by decide +kernel)).trans lk_here
  | rep b m n => exact (lk_past (by decide +kernel)).trans ((lk_past (by decide +kernel)).trans ((lk_past (by decide +kernel)).trans lk_here))
  | cap n b => exact (lk_past (by decide +kernel)).trans ((lk_past (by decide +kernel)).trans lk_here)
theorem nF_put (rg ra x : Addr) (k : Kd) : putF "reach" (.ref x) (nF rg ra k) = nF x ra k := by
  cases k with
  | one ar l neg => exact (put_past (by decide +kernel)).trans (congrArg _ ((put_past (by decide +kernel)).trans (congrArg _ put_here)))
  | stand z => exact (put_past (by decide +kernel)).trans (congrArg _ put_here)
  | row al bs => exact (put_past (by decide +kernel)).trans (congrArg _ put_here)
  | choice al bs => exact (put_past (by decide +kernel)).trans (congrArg _ put_here)
  | rep b m n => exact (put_past (by decide +kernel)).trans (congrArg _ ((put_past (by decide +kernel)).trans (congrArg _ ((put_past (by decide +kernel)).trans (congrArg _ put_here)))))
  | cap n b => exact (put_past (by decide +kernel)).trans (congrArg _ ((put_past (by decide +kernel)).trans (congrArg _ put_here)))
theorem nF_no {m : Str} (h : (m == ("ranges" : Str)) = false ∧ (m == ("inverted" : Str)) = false ∧ (m == ("reach" : Str)) = false ∧ (m == ("sign" : Str)) = false ∧ (m == ("steps" : Str)) = false ∧ (m == ("rows" : Str)) = false ∧ (m == ("body" : Str)) = false ∧ (m == ("least" : Str)) = false ∧ (m == ("most" : Str)) = false ∧ (m == ("reach_after" : Str)) = false ∧ (m == ("number" : Str)) = false) (rg ra : Addr) (k : Kd) : (nF rg ra k).lookup m = none := by
  obtain ⟨h1, h2, h3, h4, h5, h6, h7, h8, h9, h10, h11⟩ := h
  cases k with
  | one ar l neg => exact (lk_past h1).trans ((lk_past h2).trans ((lk_past h3).trans rfl))
  | stand z => exact (lk_past h4).trans ((lk_past h3).trans rfl)
  | row al bs => exact (lk_past h5).trans ((lk_past h3).trans ((lk_past h10).trans rfl))
  | choice al bs => exact (lk_past h6).trans ((lk_past h3).trans rfl)
  | rep b m n => exact (lk_past h7).trans ((lk_past h8).trans ((lk_past h9).trans ((lk_past h3).trans ((lk_past h10).trans rfl))))
  | cap n b => exact (lk_past h11).trans ((lk_past h7).trans ((lk_past h3).trans rfl))
theorem nF_len (rg ra : Addr) (k : Kd) : (nF rg ra k).length < 1000 := by
  cases k <;> (show (_ : Nat) < 1000; simp [nF])
/-- lists that are being written -/
abbrev Busy := Addr → Prop
def LsAt (M : PM) (B : Busy) (H : Hp) (r : Addr) (ns : List Nat) : Prop := H r = some (.lst (iv ns)) ∧ M r = none ∧ ¬ B r
def EndsOf (w : WF) (t : List Nat) : Nat → Nat → Prop := fun p e => e ∈ Ways.ends (w t p)
theorem ends_onw {w : WF} (h : FwdW w) (t : List Nat) : Onw t.length (EndsOf w t) := fun i hi e m => by
  obtain ⟨z, hz, rfl⟩ := Ways.mem_ends.mp m
  exact h t i hi z hz
/-- reach_after -/
def AfterOk (M : PM) (B : Busy) (H : Hp) (ra : Addr) (t : List Nat) : Kd → Prop
  | .rep b m n => ∃ rs : List Addr, H ra = some (.lst (rs.map V.ref)) ∧ M ra = none ∧ ¬ B ra ∧ rs.length = n.getD m + 1 ∧ ∃ j, M b = some j ∧ ∀ k r, rs[k]? = some r → ∃ ks, LsAt M B H r ks ∧ Rep t.length ks (Ways.Reach (j.wf t) m n k)
  | .row _ bs => ∃ (rs : List Addr) (ws : List WF) (d : Nat), H ra = some (.lst (rs.map V.ref)) ∧ M ra = none ∧ ¬ B ra ∧ rs.length = bs.length + 1 ∧ Kids M d bs ws ∧ ∀ k r, rs[k]? = some r → ∃ ks, LsAt M B H r ks ∧ Rep t.length ks (EndsOf (seqsWF (ws.drop k)) t)
  | _ => True
def kidsOf : Kd → List Addr
  | .one _ _ _ => []
  | .stand _ => []
  | .row _ bs => bs
  | .choice _ bs => bs
  | .rep b _ _ => [b]
  | .cap _ b => [b]
/-- a part that has been measured -/
def Done (cs : Cs) (M : PM) (B : Busy) (t : List Nat) (H : Hp) (b : Addr) (i : Info) : Prop := ∃ rg ra ns, H b = some (.ins (cs.at i.kd) i.dx (nF rg ra i.kd)) ∧ LsAt M B H rg ns ∧ Rep t.length ns (EndsOf i.wf t) ∧ AfterOk M B H ra t i.kd
def DoneAt (cs : Cs) (M : PM) (B : Busy) (t : List Nat) (H : Hp) (b : Addr) : Prop := ∃ i, M b = some i ∧ Done cs M B t H b i
/-- a part that has been measured, with all below it -/
inductive DT (cs : Cs) (M : PM) (B : Busy) (t : List Nat) (H : Hp) : Addr → Prop
  | mk {b : Addr} {i : Info} : M b = some i → Done cs M B t H b i → (∀ c, c ∈ kidsOf i.kd → DT cs M B t H c) → DT cs M B t H b
/-- only parts that are at most so deep are changed -/
def KeepD (M : PM) (d : Nat) (H H' : Hp) : Prop := ∀ x o, H x = some o → (∀ j, M x = some j → d < j.d) → H' x = some o
structure Mw (cs : Cs) (M : PM) (G H : Hp) : Prop where
  same : Same G H
  node : ∀ b i, M b = some i → ∃ rg ra, H b = some (.ins (cs.at i.kd) i.dx (nF rg ra i.kd))
structure Ms (K : PySem.W.Frag) (cs : Cs) (M : PM) (G : Hp) (nm : List Name) : Prop where
  aux : ∀ b i, M b = some i → Aux K G i.kd
  stat : ∀ b i, M b = some i → Stat nm M i
  fwd : ∀ b i, M b = some i → FwdW i.wf
  out : ∀ b i, M b = some i → G b = none
structure TxtM (M : PM) (CT : Addr) (H : Hp) (tx dxt asc afb : Addr) (t fb : List Nat) : Prop where
  tt : TxtAt CT H tx dxt asc afb t fb
  m1 : M tx = none
  m2 : M asc = none
  m3 : M afb = none
section
variable {K : PySem.W.Frag} {cs : Cs} {M : PM} {G H H1 H2 : Hp} {nm : List Name} {t fb : List Nat} {d d' : Nat} {b : Addr} {i : Info} {CT tx dxt asc afb : Addr}
theorem KeepD.refl : KeepD M d H H := fun _ _ h _ => h
theorem KeepD.trans (x : KeepD M d H H1) (y : KeepD M d H1 H2) : KeepD M d H H2 := fun a o h n => y a o (x a o h n) n
theorem KeepD.le (x : KeepD M d H H1) (h : d ≤ d') : KeepD M d' H H1 := fun a o e n => x a o e fun j hj => Nat.lt_of_le_of_lt h (n j hj)
theorem KeepD.of_same (s : Same H H1) : KeepD M d H H1 := fun a o h _ => s a o h
theorem KeepD.of_kept (k : Kept H H1 b) (hb : M b = some i) (hd : i.d ≤ d) : KeepD M d H H1 := fun a o h n => k a o h fun e => by
  have := n i (by rw [e]; exact hb)
  omega
theorem KeepD.stay (k : KeepD M d H H1) {a : Addr} {o : HO} (ha : M a = none) (h : H a = some o) : H1 a = some o := k a o h fun j hj => by rw [ha] at hj; cases hj
theorem LsAt.keep {B : Busy} {r : Addr} {ns : List Nat} (h : LsAt M B H r ns) (k : KeepD M d H H1) : LsAt M B H1 r ns := ⟨k.stay h.2.1 h.1, h.2⟩
/-- what holds of the lists of a part, whatever becomes of the heap -/
theorem AfterOk.map {B B' : Busy} {ra : Addr} {kd : Kd} (h : AfterOk M B H ra t kd) (k : ∀ r o, H r = some o → M r = none → ¬ B r → H1 r = some o ∧ ¬ B' r) : AfterOk M B' H1 ra t kd := by
  cases kd with
  | rep b m n =>
    obtain ⟨rs, h1, h2, h3, h4, j, h5, h6⟩ := h
    obtain ⟨k1, k2⟩ := k _ _ h1 h2 h3
    refine ⟨rs, k1, h2, k2, h4, j, h5, fun q r e => ?_⟩
    obtain ⟨ks, h7, h8⟩ := h6 q r e
    obtain ⟨k3, k4⟩ := k _ _ h7.1 h7.2.1 h7.2.2
    exact ⟨ks, ⟨k3, h7.2.1, k4⟩, h8⟩
  | row al bs =>
    obtain ⟨rs, ws, d, h1, h2, h3, h4, h5, h6⟩ := h
    obtain ⟨k1, k2⟩ := k _ _ h1 h2 h3
    refine ⟨rs, ws, d, k1, h2, k2, h4, h5, fun q r e => ?_⟩
    obtain ⟨ks, h7, h8⟩ := h6 q r e
    obtain ⟨k3, k4⟩ := k _ _ h7.1 h7.2.1 h7.2.2
    exact ⟨ks, ⟨k3, h7.2.1, k4⟩, h8⟩
  | one ar l neg => trivial
  | stand z => trivial
  | choice al bs => trivial
  | cap n b => trivial
theorem Done.map {B B' : Busy} (h : Done cs M B t H b i) (k : ∀ r o, H r = some o → M r = none → ¬ B r → H1 r = some o ∧ ¬ B' r) (e : ∀ o, H b = some o → H1 b = some o) : Done cs M B' t H1 b i := by
  obtain ⟨rg, ra, ns, h1, h2, h3, h4⟩ := h
  obtain ⟨k1, k2⟩ := k _ _ h2.1 h2.2.1 h2.2.2
  exact ⟨rg, ra, ns, e _ h1, ⟨k1, h2.2.1, k2⟩, h3, h4.map k⟩
/-- what has been measured stays so where it is not changed -/
theorem Done.keep {B : Busy} (h : Done cs M B t H b i) (k : KeepD M d H H1) (e : ∀ o, H b = some o → H1 b = some o) : Done cs M B t H1 b i := h.map (fun _ _ e m n => ⟨k.stay m e, n⟩) e
theorem DoneAt.same {B : Busy} (h : DoneAt cs M B t H b) (s : Same H H1) : DoneAt cs M B t H1 b := by
  obtain ⟨i, h1, h2⟩ := h
  exact ⟨i, h1, h2.keep (d := 0) (KeepD.of_same s) fun o e => s _ _ e⟩
/-- a list that is being written is written -/
theorem Done.busy {B : Busy} {ar : Addr} {xs : List V} {o : HO} (h : Done cs M B t H b i) (hB : B ar) (har : H ar = some (.lst xs)) : Done cs M B t (upd H ar o) b i := by
  refine h.map (fun r u e _ n => ⟨(upd_ne (fun x => n (by rw [x]; exact hB))).trans e, n⟩) fun u e => (upd_ne (fun x => ?_)).trans e
  obtain ⟨rg, ra, ns, h1, _⟩ := h
  rw [x, har] at h1
  cases h1
theorem DoneAt.busy {B : Busy} {ar : Addr} {xs : List V} {o : HO} (h : DoneAt cs M B t H b) (hB : B ar) (har : H ar = some (.lst xs)) : DoneAt cs M B t (upd H ar o) b := by
  obtain ⟨i, h1, h2⟩ := h
  exact ⟨i, h1, h2.busy hB har⟩
theorem Done.weak {B B' : Busy} (h : Done cs M B' t H b i) (l : ∀ r, B r → B' r) : Done cs M B t H b i := h.map (fun _ _ e _ n => ⟨e, fun x => n (l _ x)⟩) fun _ e => e
def plusB (B : Busy) (a : Addr) : Busy := fun r => B r ∨ r = a
theorem Done.more {B : Busy} {ar : Addr} (h : Done cs M B t H b i) (hn : H ar = none) : Done cs M (plusB B ar) t H b i := h.map (fun r o e _ n => ⟨e, fun x => x.elim n fun y => by rw [y, hn] at e; cases e⟩) fun _ e => e
theorem DoneAt.more {B : Busy} {ar : Addr} (h : DoneAt cs M B t H b) (hn : H ar = none) : DoneAt cs M (plusB B ar) t H b := by
  obtain ⟨i, h1, h2⟩ := h
  exact ⟨i, h1, h2.more hn⟩
theorem DoneAt.weak {B B' : Busy} (h : DoneAt cs M B' t H b) (l : ∀ r, B r → B' r) : DoneAt cs M B t H b := by
  obtain ⟨i, h1, h2⟩ := h
  exact ⟨i, h1, h2.weak l⟩
theorem kids_mem {d : Nat} : ∀ {bs : List Addr} {ws : List WF}, Kids M d bs ws → ∀ c ∈ bs, ∃ j, M c = some j ∧ j.d < d
  | [], [], _, _, m => nomatch m
  | [], _ :: _, h, _, _ => h.elim
  | _ :: _, [], h, _, _ => h.elim
  | _ :: _, _ :: _, ⟨⟨i, h1, h2, _⟩, h4⟩, c, m => by
    rcases List.mem_cons.mp m with e | m
    · rw [e]
      exact ⟨i, h1, h2⟩
    · exact kids_mem h4 c m
theorem kid_lt (h : Stat nm M i) {c : Addr} (m : c ∈ kidsOf i.kd) : ∃ j, M c = some j ∧ j.d < i.d := by
  unfold Stat at h
  unfold kidsOf at m
  split at h
  · rename_i e
    rw [e] at m
    cases m
  · rename_i e
    rw [e] at m
    cases m
  · rename_i e
    rw [e] at m
    obtain ⟨_, ws, h1, _⟩ := h
    exact kids_mem h1 c m
  · rename_i e
    rw [e] at m
    obtain ⟨_, ws, h1, _⟩ := h
    exact kids_mem h1 c m
  · rename_i e
    rw [e] at m
    obtain ⟨_, _, j, h1, h2, _⟩ := h
    rw [List.mem_singleton.mp m]
    exact ⟨j, h1, h2⟩
  · rename_i e
    rw [e] at m
    obtain ⟨j, n, h1, h2, _⟩ := h
    rw [List.mem_singleton.mp m]
    exact ⟨j, h1, h2⟩
theorem DT.at {B : Busy} (h : DT cs M B t H b) : DoneAt cs M B t H b := by
  cases h with
  | mk h1 h2 _ => exact ⟨_, h1, h2⟩
/-- whatever is done of parts at most so deep is done -/
theorem DT.move {B B' : Busy} {D : Nat} (hs : ∀ b i, M b = some i → Stat nm M i) (f : ∀ x j, M x = some j → j.d ≤ D → Done cs M B t H x j → Done cs M B' t H1 x j) {c : Addr} (h : DT cs M B t H c) : (∀ j, M c = some j → j.d ≤ D) → DT cs M B' t H1 c := by
  induction h with
  | @mk b i h1 h2 _ ih =>
    intro hd
    refine .mk h1 (f _ _ h1 (hd _ h1) h2) fun x hx => ih x hx fun j hj => ?_
    obtain ⟨j', hj', hlt⟩ := kid_lt (hs _ _ h1) hx
    rw [hj] at hj'
    cases hj'
    exact Nat.le_trans (Nat.le_of_lt hlt) (hd _ h1)
theorem Mw.sameH (h : Mw cs M G H) (s : Same H H1) : Mw cs M G H1 := ⟨Same.trans h.same s, fun b i e => by
  obtain ⟨rg, ra, h1⟩ := h.node b i e
  exact ⟨rg, ra, s _ _ h1⟩⟩
theorem Mw.fresh (h : Mw cs M G H) {a : Addr} (ha : H a = none) : M a = none := by
  cases e : M a with
  | none => rfl
  | some i =>
    obtain ⟨rg, ra, h1⟩ := h.node a i e
    rw [ha] at h1
    cases h1
theorem Mw.notnode (h : Mw cs M G H) {a : Addr} {xs : List V} (ha : H a = some (.lst xs)) : M a = none := by
  cases e : M a with
  | none => rfl
  | some i =>
    obtain ⟨rg, ra, h1⟩ := h.node a i e
    rw [ha] at h1
    cases h1
theorem TxtM.keep (h : TxtM M CT H tx dxt asc afb t fb) (k : KeepD M d H H1) : TxtM M CT H1 tx dxt asc afb t fb := ⟨⟨k.stay h.m1 h.tt.at_, k.stay h.m2 h.tt.sc, k.stay h.m3 h.tt.fb, h.tt.len⟩, h.m1, h.m2, h.m3⟩
/-- the reach of a part is written -/
theorem Mw.put (h : Mw cs M G H) (hs : Ms K cs M G nm) (hb : M b = some i) {rg ra : Addr} : Mw cs M G (upd H b (.ins (cs.at i.kd) i.dx (nF rg ra i.kd))) := ⟨same_upd h.same (hs.out b i hb), fun c j e => by
  by_cases ec : c = b
  · subst ec
    rw [hb] at e
    cases e
    exact ⟨rg, ra, upd_same⟩
  · obtain ⟨rg', ra', h1⟩ := h.node c j e
    exact ⟨rg', ra', (upd_ne ec).trans h1⟩⟩
theorem DoneAt.put {B : Busy} {c : Addr} {o : HO} (h : DoneAt cs M B t H c) (hb : M b = some i) (n : c ≠ b) : DoneAt cs M B t (upd H b o) c := by
  obtain ⟨j, h1, h2⟩ := h
  exact ⟨j, h1, h2.keep (KeepD.of_kept (d := i.d) Kept.upd hb (Nat.le_refl _)) fun o e => (upd_ne n).trans e⟩
/-- what measuring b brings about -/
structure Meas (cs : Cs) (M : PM) (B : Busy) (G : Hp) (t : List Nat) (d : Nat) (b : Addr) (H H' : Hp) : Prop where
  w : Mw cs M G H'
  k : KeepD M d H H'
  old : ∀ c, DoneAt cs M B t H c → c ≠ b → DoneAt cs M B t H' c
  tree : DT cs M B t H' b
/-- while b is being measured -/
structure Mid (cs : Cs) (M : PM) (B : Busy) (G : Hp) (t : List Nat) (d : Nat) (b : Addr) (H H' : Hp) : Prop where
  w : Mw cs M G H'
  k : KeepD M d H H'
  old : ∀ c, DoneAt cs M B t H c → c ≠ b → DoneAt cs M B t H' c
variable {B : Busy}
theorem Meas.new (x : Meas cs M B G t d b H H1) : DoneAt cs M B t H1 b := x.tree.at
theorem Mid.refl (h : Mw cs M G H) : Mid cs M B G t d b H H := ⟨h, KeepD.refl, fun _ h _ => h⟩
theorem Mid.same (x : Mid cs M B G t d b H H1) (s : Same H1 H2) : Mid cs M B G t d b H H2 := ⟨x.w.sameH s, x.k.trans (KeepD.of_same s), fun c h n => (x.old c h n).same s⟩
theorem Mid.put (x : Mid cs M B G t i.d b H H1) (hs : Ms K cs M G nm) (hb : M b = some i) {rg ra : Addr} : Mid cs M B G t i.d b H (upd H1 b (.ins (cs.at i.kd) i.dx (nF rg ra i.kd))) :=
  ⟨x.w.put hs hb, x.k.trans (KeepD.of_kept Kept.upd hb (Nat.le_refl _)), fun c h n => (x.old c h n).put hb n⟩
/-- all but b is as it was -/
theorem Mid.kept (x : Mid cs M B G t i.d b H H1) (hs : Ms K cs M G nm) (hb : M b = some i) (k : Kept H1 H2 b) {rg ra : Addr} (hn : H2 b = some (.ins (cs.at i.kd) i.dx (nF rg ra i.kd))) : Mid cs M B G t i.d b H H2 where
  w := ⟨fun a o e => k a o (x.w.same a o e) (fun ea => by rw [ea, hs.out b i hb] at e; cases e), fun c j e => by
    by_cases ec : c = b
    · subst ec
      rw [hb] at e
      cases e
      exact ⟨rg, ra, hn⟩
    · obtain ⟨rg', ra', h1⟩ := x.w.node c j e
      exact ⟨rg', ra', k _ _ h1 ec⟩⟩
  k := x.k.trans (KeepD.of_kept k hb (Nat.le_refl _))
  old := fun c h n => by
    obtain ⟨j, h1, h2⟩ := x.old c h n
    exact ⟨j, h1, h2.keep (KeepD.of_kept (d := i.d) k hb (Nat.le_refl _)) fun o e => k _ _ e n⟩
/-- a list that is being written, new since the start, is written -/
theorem Mid.busy {ar : Addr} {xs ys : List V} (x : Mid cs M B G t d b H H1) (hB : B ar) (hn : H ar = none) (hG : Same G H) (har : H1 ar = some (.lst xs)) : Mid cs M B G t d b H (upd H1 ar (.lst ys)) where
  w := ⟨Same.upd' x.w.same (none_same hG hn), fun c j e => by
    obtain ⟨rg, ra, h1⟩ := x.w.node c j e
    exact ⟨rg, ra, (upd_ne (fun y => by rw [y, har] at h1; cases h1)).trans h1⟩⟩
  k := fun a o e n => (upd_ne (ne_of_none e hn)).trans (x.k a o e n)
  old := fun c h n => (x.old c h n).busy hB har
theorem Mid.meas (x : Mid cs M B G t d b H H1) (hb : M b = some i) (h : Done cs M B t H1 b i) (hk : ∀ c, c ∈ kidsOf i.kd → DT cs M B t H1 c) : Meas cs M B G t d b H H1 := ⟨x.w, x.k, x.old, .mk hb h hk⟩
/-- a child is measured -/
theorem Mid.kid {c : Addr} {j : Info} (x : Mid cs M B G t d b H H1) (m : Meas cs M B G t j.d c H1 H2) (hd : j.d ≤ d) : Mid cs M B G t d b H H2 :=
  ⟨m.w, x.k.trans (m.k.le hd), fun e h n => by
    by_cases ec : e = c
    · rw [ec]; exact m.new
    · exact m.old e (x.old e h n) ec⟩
/-! what has been measured stays measured -/
theorem DT.same {c : Addr} (hs : Ms K cs M G nm) (h : DT cs M B t H c) (s : Same H H1) : DT cs M B t H1 c := by
  obtain ⟨i, hi, _⟩ := h.at
  refine DT.move (D := i.d) (nm := nm) hs.stat (fun x j _ _ h => h.keep (d := 0) (KeepD.of_same s) fun o e => s _ _ e) h fun j hj => ?_
  rw [hi] at hj
  cases hj
  exact Nat.le_refl _
theorem DT.put {c : Addr} {o : HO} {j : Info} (hs : Ms K cs M G nm) (h : DT cs M B t H c) (hb : M b = some i) (hc : M c = some j) (hd : j.d < i.d) : DT cs M B t (upd H b o) c := by
  refine DT.move (D := j.d) (nm := nm) hs.stat (fun x k hx hk h => h.keep (KeepD.of_kept (d := i.d) Kept.upd hb (Nat.le_refl _)) fun o e => (upd_ne fun y => ?_).trans e) h fun k hk => ?_
  · rw [y, hb] at hx
    cases hx
    omega
  · rw [hc] at hk
    cases hk
    exact Nat.le_refl _
theorem DT.busy {c ar : Addr} {xs : List V} {o : HO} (hs : Ms K cs M G nm) (h : DT cs M B t H c) (hB : B ar) (har : H ar = some (.lst xs)) : DT cs M B t (upd H ar o) c := by
  obtain ⟨i, hi, _⟩ := h.at
  refine DT.move (D := i.d) (nm := nm) hs.stat (fun x j _ _ h => h.busy hB har) h fun j hj => ?_
  rw [hi] at hj
  cases hj
  exact Nat.le_refl _
theorem DT.weak {c : Addr} {B' : Busy} (hs : Ms K cs M G nm) (h : DT cs M B' t H c) (l : ∀ r, B r → B' r) : DT cs M B t H c := by
  obtain ⟨i, hi, _⟩ := h.at
  refine DT.move (D := i.d) (nm := nm) hs.stat (fun x j _ _ h => h.weak l) h fun j hj => ?_
  rw [hi] at hj
  cases hj
  exact Nat.le_refl _
theorem DT.meas {c c' : Addr} {j : Nat} (hs : Ms K cs M G nm) (h : DT cs M B t H c) (m : Meas cs M B G t j c' H H1) : DT cs M B t H1 c := by
  obtain ⟨i, hi, _⟩ := h.at
  refine DT.move (D := i.d) (nm := nm) hs.stat (fun x k hx _ h => ?_) h fun j hj => ?_
  · have key : DoneAt cs M B t H1 x := by
      by_cases e : x = c'
      · rw [e]; exact m.new
      · exact m.old x ⟨k, hx, h⟩ e
    obtain ⟨k', hk', h'⟩ := key
    rw [hx] at hk'
    cases hk'
    exact h'
  · rw [hi] at hj
    cases hj
    exact Nat.le_refl _
/-- what was measured while one list more was being written -/
theorem Meas.weak {ar : Addr} (hs : Ms K cs M G nm) (m : Meas cs M (plusB B ar) G t d b H H1) (hn : H ar = none) : Meas cs M B G t d b H H1 :=
  ⟨m.w, m.k, fun c h n => (m.old c (h.more hn) n).weak fun _ x => .inl x, m.tree.weak hs fun _ x => .inl x⟩
/-- what is there stays there -/
theorem Mid.dom (x : Mid cs M B G t d b H H1) {r : Addr} (h : H r ≠ none) : H1 r ≠ none := by
  cases e : M r with
  | none =>
    cases e2 : H r with
    | none => exact absurd e2 h
    | some o =>
      rw [x.k.stay e e2]
      exact fun h => nomatch h
  | some j =>
    obtain ⟨rg, ra, h1⟩ := x.w.node r j e
    rw [h1]
    exact fun h => nomatch h
end
/-! ### calls of a part, of whatever class it is -/
theorem pe_poly {X : Cx} {cs : Cs} {k : Nat} {m : Str} {ps : List Str} {sp : Tag → Sp} {o e : Expr} {es : List Expr} {apos pos : Pos} {ta : TE} {t : TA} {pl : Sem Bool} (MM : ∀ τ, MOk X.prog X.w X.K X.mg X.base CX0 (cs.tag τ) k m ps (sp τ)) (TN : TxN X.K cs) (hr : Room k X.A) (he : PE X o ta) (ha : PA X (e :: es) t)
    (hst : starEach (e :: es) X.env = (false, eval e X.env) :: starEach es X.env := by rfl) (hpl : (backTo pos (starEach es X.env)).any (·.1) = false := by rfl)
    (ht : eval (.Call (.Attribute o m apos) (e :: es) [] pos) X.env = (do let ov ← eval o X.env; standAt apos.atName; let (f, first) ← holding [ov] (getMethod ov m pl); callWith pos f first (backTo pos (starEach (e :: es) X.env)) (backToKw pos (keywordEach [] X.env))) := by rfl) :
    PE X (.Call (.Attribute o m apos) (e :: es) [] pos) (fun σ H Q => ∃ τ, tMeth (cs.tag τ) m (sp τ) [] E0 ta t σ H Q) := by
  constructor
  rintro pins s σ H Q I ⟨τ, h⟩
  obtain ⟨f, fd, m1, b1, G1⟩ := MM τ
  exact (pe_meth (pl := pl) he (TN.cl τ) m1 G1 hr b1 .nil pass0 ha hst hpl ht).run pins s σ H Q I h
/-- the promise of measure, of the parts that lie less deep than d -/
@[irreducible] def spMs (K : PySem.W.Frag) (cs : Cs) (CT : Addr) (d : Nat) (τ : Tag) : Sp := fun vs H Q _ => ∃ (b tx dxt asc afb : Addr) (t fb : List Nat) (i : Info) (M : PM) (B : Busy) (G : Hp) (nm : List Name), vs = [.ref b, .ref tx] ∧ M b = some i ∧ tagOf i.kd = τ ∧ i.d < d ∧ Ms K cs M G nm ∧ Mw cs M G H ∧ TxtM M CT H tx dxt asc afb t fb ∧ (∀ r, B r → H r ≠ none) ∧
  ∀ H', Meas cs M B G t i.d b H H' → Q .non H'
theorem ms_use {K : PySem.W.Frag} {cs : Cs} {CT : Addr} {d : Nat} {τ : Tag} {H : Hp} {Q : VK} {E : XK} {b tx dxt asc afb : Addr} {t fb : List Nat} {i : Info} {M : PM} {B : Busy} {G : Hp} {nm : List Name} (hb : M b = some i) (ht : tagOf i.kd = τ) (hd : i.d < d) (hs : Ms K cs M G nm) (hw : Mw cs M G H) (htx : TxtM M CT H tx dxt asc afb t fb) (hB : ∀ r, B r → H r ≠ none)
    (q : ∀ H', Meas cs M B G t i.d b H H' → Q .non H') : spMs K cs CT d τ [.ref b, .ref tx] H Q E := by
  unfold spMs
  exact ⟨b, tx, dxt, asc, afb, t, fb, i, M, B, G, nm, rfl, hb, ht, hd, hs, hw, htx, hB, q⟩
theorem ms_len {K : PySem.W.Frag} {cs : Cs} {CT : Addr} {d : Nat} {τ : Tag} {vs : List V} {H : Hp} {Q : VK} {E : XK} (h : spMs K cs CT d τ vs H Q E) : vs.length = 2 := by
  unfold spMs at h
  obtain ⟨_, _, _, _, _, _, _, _, _, _, _, _, rfl, _⟩ := h
  rfl
end Pat
end

section
namespace Pat
open PySem PySem.Spec PyProof.Rows L2
open PatWords (Name)
open Ways (WF FwdW FitsW FitAll oneWF seqsWF altsWF repWF capWF)
/-! ### OneValue.measure -/
theorem ends_one {l : List (Nat × Nat)} {neg : Bool} {t : List Nat} {p e : Nat} : EndsOf (oneWF l neg) t p e ↔ ∃ x, t[p]? = some x ∧ (PatWords.inSet l x != neg) = true ∧ e = p + 1 := by
  unfold EndsOf oneWF
  cases h : t[p]? with
  | none => simp [Ways.ends]
  | some x =>
    dsimp only
    by_cases c : (PatWords.inSet l x != neg) = true
    · rw [if_pos c]
      simp only [Ways.ends, List.map_cons, List.map_nil, List.mem_singleton, Option.some.injEq]
      constructor
      · intro e; exact ⟨x, rfl, c, e⟩
      · rintro ⟨_, _, _, e⟩; exact e
    · rw [if_neg c]
      simp only [Ways.ends, List.map_nil, List.not_mem_nil, Option.some.injEq, false_iff]
      rintro ⟨y, e, h2, _⟩
      rw [← e] at h2
      exact c h2
theorem rep_flat (n : Nat) (v : V) : (List.replicate n [v]).flatten = List.replicate n v := by
  induction n with
  | zero => rfl
  | succ n ih => rw [List.replicate_succ, List.flatten_cons, ih, List.replicate_succ]; rfl
theorem iv_zero (n : Nat) : List.replicate n (V.int 0) = iv (List.replicate n 0) := by
  unfold iv
  rw [List.map_replicate]
  rfl
theorem zeros_get (n p : Nat) : (List.replicate n 0).getD p 0 = 0 := by
  rw [List.getD_eq_getElem?_getD, List.getElem?_replicate]
  split <;> rfl
theorem iv_set {ns : List Nat} {p m : Nat} : (iv ns).set p (V.int (m : Nat)) = iv (ns.set p m) := by
  unfold iv
  rw [List.map_set]
section
variable {P : Program} {w : World} {K : PySem.W.Frag} {mg : Str → Option Value} {base : Heap} {cs : Cs} {CT : Addr} {H : Hp} {Q : VK} {E : XK}
theorem scOM : FnScope ["self", "text", "place", "value"] ["self", "text"] (defScope (sON 1)) := ⟨rfl, rfl, rfl, by decide +kernel, rfl, by decide +kernel, by decide +kernel⟩
theorem ok_om {f : Addr} {fd : FuncData} (F : Fun K "measure" "OneValue.measure" (sON 1) f fd) (T : TxN K cs) (TT : TxT K CT) (henum : mg "enumerate" = none) (M1 : MOk P w K mg base CX0 CT 2 "end_place" ["self"] (spEnd CT)) (G2 : GOk P w K mg base CX0 2 "have_value" ["ranges", "value"] (spHave K)) (G3 : GOk P w K mg base CX0 2 "only" ["place"] spOnly) (d : Nat) :
    FnOk P w K mg base CX0 6 f fd ["self", "text"] (spMs K cs CT d .o) := by
  obtain ⟨f1, fd1, m1, b1, G1⟩ := M1
  obtain ⟨f2, fd2, gg2, k2, b2, G2⟩ := G2
  obtain ⟨f3, fd3, gg3, k3, b3, G3⟩ := G3
  refine F.ok scOM (fun vs H Q E h => ms_len h) (fun cdv A outer s H vs Q E hr h => ⟨_, pss_cons (ps_fld (pv 0) (pe_op op_rep (pe_lst (pa_cons pe_int pa_nil)) (pe_op op_add (pe_meth0 (pv 1) TT.cl m1 G1 (hr.mono (by decide)) b1 .nil pass0) pe_int)) rfl)
      (pss_one (ps_for PassesOwn.never rfl (pi_enum (by rfl) henum (by exact (pa_cons (pe_fld (pv 1) rfl) pa_nil))) (pg_tup rfl (pgs_cons (pg_name (i := 2) scOM.nd rfl (Or.inl rfl)) (pgs_cons (pg_name (i := 3) scOM.nd rfl (Or.inl rfl)) pgs_nil)))
        (pss_one (ps_if (pt_cmpR op_ne (pe_call G2 (hr.mono (by decide)) rfl gg2 k2 b2 .nil pass0 (by exact (pa_cons (pe_fld (pv 0) rfl) (pa_cons (pv 3) pa_nil)))) (pe_fld (pv 0) rfl) (nomark _))
          (pss_one (ps_asg (pe_call G3 (hr.mono (by decide)) rfl gg3 k3 b3 .nil pass0 (by exact (pa_cons (pe_op op_add (pv 2) pe_int) pa_nil))) (pg_sub (pe_fld (pv 0) rfl) (pv 2) set_list))) pss_nil)))), ?_⟩)
  unfold spMs at h
  obtain ⟨b, tx, dxt, asc, afb, t, fb, i, M, B, G, nm, rfl, hb, ht, hd, hs, hw, htx, hB, hQ⟩ := h
  obtain ⟨dx, kd, di, wf⟩ := i
  cases kd with
  | one ar l neg =>
    obtain ⟨rg, ra, hn⟩ := hw.node b _ hb
    have hst : wf = oneWF l neg := hs.stat b _ hb
    have hrg : RgAt K H ar l := (hs.aux b _ hb).same hw.same
    have htl := htx.tt.len
    -- [0] * ..
    refine ⟨by show 1 ≤ sizeLine; decide, fun z hz => ?_⟩
    have htx1 := htx.keep (KeepD.of_same (d := 0) (Same.upd (o := HO.lst [V.int 0]) hz))
    refine ⟨_, rfl, tx, dxt, _, rfl, htx1.tt.at_, tF_no (by decide +kernel), ?_⟩
    refine end_use htx1.tt ?_
    refine ⟨_, _, rfl, rfl, z, _, _, rfl, rfl, upd_same, by omega, by omega, ?_, fun r hr0 => ?_⟩
    · show 1 * ((((t.length : Nat) : Int) + 1).toNat) ≤ sizeLine
      exact Nat.le_of_lt (small1000 (by omega))
    have en : ((((t.length : Nat) : Int) + 1).toNat) = t.length + 1 := by omega
    rw [en, rep_flat, iv_zero]
    have hzr : r ≠ z := fun e => by rw [e, upd_same] at hr0; cases hr0
    have hrH : H r = none := by rw [upd_ne hzr] at hr0; exact hr0
    have hbr : b ≠ r := ne_of_none hn hrH
    have hbz : b ≠ z := ne_of_none hn hz
    have s0 : Same H (upd (upd H z (.lst [V.int 0])) r (.lst (iv (List.replicate (t.length + 1) 0)))) := Same.upd' (Same.upd hz) hrH
    refine ⟨_, rfl, b, cs.o, dx, _, rfl, s0 _ _ hn, T.clo, T.o3, nF_len _ _ _, ?_⟩
    rw [nF_put]
    have k0 : Kept H (upd (upd (upd H z (.lst [V.int 0])) r (.lst (iv (List.replicate (t.length + 1) 0)))) b (.ins cs.o dx (nF r ra (.one ar l neg)))) b := (Kept.of_same s0).trans Kept.upd
    have keep : ∀ {H' : Hp}, Kept H H' b → KeepD M di H H' := fun k => KeepD.of_kept k hb (Nat.le_refl _)
    have htx2 : ∀ {H' : Hp}, Kept H H' b → TxtM M CT H' tx dxt asc afb t fb := fun k => htx.keep (keep k)
    refine ⟨_, rfl, tx, CT, dxt, _, _, rfl, (htx2 k0).tt.at_, TT.cl, TT.n1, tF_sc, asc, _, rfl, SqL.of (htx2 k0).tt.sc, ?_⟩
    refine for_it walk_enum (fun j σ H' => (∃ v2 v3, σ = [some (.ref b), some (.ref tx), v2, v3]) ∧ Kept H H' b ∧ H' b = some (.ins cs.o dx (nF r ra (.one ar l neg))) ∧ ∃ ns : List Nat, H' r = some (.lst (iv ns)) ∧ ns.length = t.length + 1 ∧ ∀ p, p ≤ t.length → ∀ e, (ns.getD p 0).testBit e = true ↔ (p < j ∧ EndsOf (oneWF l neg) t p e)) ?_ (fun j σ H' _ h => SqL.of (htx2 h.2.1).tt.sc) ?_ ?_
    · refine ⟨⟨_, _, rfl⟩, k0, upd_same, List.replicate (t.length + 1) 0, (upd_ne hbr.symm).trans upd_same, List.length_replicate, fun p _ e => ?_⟩
      rw [zeros_get, Nat.zero_testBit]
      constructor
      · intro h; cases h
      · rintro ⟨h, _⟩; omega
    · rintro j x σ H1 H2 hj ⟨⟨v2, v3, rfl⟩, k1, e1, ns, e2, hnl, hns⟩ ⟨Tp, x0, y0, rfl, hT, rfl, hx0, hy0⟩
      cases hx0
      rw [List.length_map] at hj
      have ej : t[j]? = some t[j] := List.getElem?_eq_getElem hj
      have hy0 : (iv t)[j]? = some y0 := hy0
      rw [iv_at ej] at hy0
      cases hy0
      have s2 := Same.upd (o := HO.tup [V.int (j : Nat), V.int ((t[j] : Nat) : Int)]) hT
      have k2 := k1.trans (Kept.of_same s2)
      have e1' := s2 _ _ e1
      have e2' := s2 _ _ e2
      refine ⟨Tp, _, rfl, SqT.of upd_same, rfl, _, _, rfl, _, _, rfl, rfl, ?_⟩
      refine ⟨_, rfl, b, cs.o, dx, _, _, rfl, e1', T.clo, T.o1, lk_here, _, rfl, ?_⟩
      refine have_use (.inl (hrg.kept hn k2)) fun H3 s3 => ?_
      have k3 := k2.trans (Kept.of_same s3)
      have e1'' := s3 _ _ e1'
      have e2'' := s3 _ _ e2'
      refine ⟨_, rfl, b, cs.o, dx, _, _, rfl, e1'', T.clo, T.o2, (lk_past (by decide +kernel)).trans lk_here, rfl, ?_⟩
      rw [bl_ne]
      refine ⟨_, rfl, ?_⟩
      by_cases c : (PatWords.inSet l t[j] != neg) = true
      · refine if_true_of c ?_
        refine ⟨_, rfl, _, _, rfl, rfl, ?_⟩
        refine only_use (k := j + 1) (by omega) ?_
        refine ⟨_, rfl, b, cs.o, dx, _, _, rfl, e1'', T.clo, T.o3, nF_reach _ _ _, _, rfl, r, _, _, j, rfl, rfl, e2'', ixN_nat (by rw [List.length_map]; omega), ?_⟩
        rw [iv_set]
        refine ⟨⟨_, _, rfl⟩, fun a o h n => ?_, (upd_ne hbr).trans e1'', ns.set j (2 ^ (j + 1)), upd_same, by rw [List.length_set]; exact hnl, fun p hp e => ?_⟩
        · rw [upd_ne (ne_of_none h hrH)]
          exact k3 a o h n
        · rw [set_get (by omega)]
          by_cases cp : p = j
          · rw [if_pos cp, cp, Nat.testBit_two_pow, decide_eq_true_iff]
            constructor
            · intro h
              exact ⟨by omega, ends_one.mpr ⟨_, ej, c, h.symm⟩⟩
            · rintro ⟨_, h⟩
              obtain ⟨_, _, _, h⟩ := ends_one.mp h
              exact h.symm
          · rw [if_neg cp, hns p hp e]
            exact ⟨fun h => ⟨by omega, h.2⟩, fun h => ⟨by omega, h.2⟩⟩
      · refine if_false_of (Bool.eq_false_iff.mpr c) ⟨⟨_, _, rfl⟩, k3, e1'', ns, e2'', hnl, fun p hp e => ?_⟩
        rw [hns p hp e]
        constructor
        · exact fun h => ⟨by omega, h.2⟩
        · rintro ⟨h1, h2⟩
          refine ⟨?_, h2⟩
          by_cases cp : p = j
          · rw [cp] at h2
            obtain ⟨x, hx, hc, _⟩ := ends_one.mp h2
            rw [ej] at hx
            cases hx
            exact absurd hc c
          · omega
    · rintro σ H1 ⟨⟨v2, v3, rfl⟩, k1, e1, ns, e2, hnl, hns⟩
      rw [List.length_map] at hns
      have x := (Mid.refl (B := B) (t := t) (d := di) (b := b) hw).kept hs hb k1 (rg := r) (ra := ra) e1
      refine hQ H1 (x.meas hb ⟨r, ra, ns, e1, ⟨e2, hw.fresh hrH, fun y => hB _ y hrH⟩, ⟨hnl, fun p hp e => ?_⟩, trivial⟩ (fun _ m => nomatch m))
      rw [hns p hp e]
      subst hst
      constructor
      · exact fun h => h.2
      · intro h
        refine ⟨?_, h⟩
        obtain ⟨x, hx, _⟩ := ends_one.mp h
        exact (List.getElem?_eq_some_iff.mp hx).1
  | stand z => cases ht
  | row al bs => cases ht
  | choice al bs => cases ht
  | rep c m n => cases ht
  | cap k c => cases ht
end
end Pat
end

section
namespace Pat
open PySem PySem.Spec PyProof.Rows L2
open PatWords (Name)
open Ways (WF FwdW FitsW FitAll oneWF seqsWF altsWF repWF capWF)
/-! ### Standpoint -/
def standB (z : Str) (t : List Nat) (p : Nat) : Bool := if z = "^" then decide (p = 0) else if z = "$" then decide (p = t.length) else PatWords.isEdge t p
theorem ends_stand {z : Str} {t : List Nat} {p e : Nat} : EndsOf (standW z) t p e ↔ standB z t p = true ∧ e = p := by
  have key : ∀ c : Bool, e ∈ Ways.ends (if c = true then [(p, ([] : PatWords.Caps))] else []) ↔ c = true ∧ e = p := fun c => by
    cases c with
    | false => simp [Ways.ends]
    | true => simp [Ways.ends]
  unfold EndsOf standW standB
  by_cases c1 : z = "^"
  · rw [if_pos c1, if_pos c1]
    have := key (decide (p = 0))
    simpa using this
  · rw [if_neg c1, if_neg c1]
    by_cases c2 : z = "$"
    · rw [if_pos c2, if_pos c2]
      have := key (decide (p = t.length))
      simpa using this
    · rw [if_neg c2, if_neg c2]
      exact key _
section
variable {P : Program} {w : World} {K : PySem.W.Frag} {mg : Str → Option Value} {base : Heap} {cs : Cs} {CT : Addr} {H : Hp} {Q : VK} {E : XK}
theorem stay_useI {n : Nat} {i : Int} (e : i = ((n : Nat) : Int)) (hn : n ≤ 1000) (h : ∀ H' r, Same H H' → H r = none → H' r = some (.lst (iv (stayL n))) → Q (.ref r) H') : spStay [.int i] H Q E := by
  subst e
  exact stay_use hn h
@[irreducible] def spMay (cs : Cs) (CT : Addr) : Sp := fun vs H Q _ => ∃ (b dx rg ra tx dxt asc afb : Addr) (z : Str) (t fb : List Nat) (p : Nat), vs = [.ref b, .ref tx, .int (p : Nat)] ∧ H b = some (.ins cs.s dx (nF rg ra (.stand z))) ∧ TxtAt CT H tx dxt asc afb t fb ∧ p ≤ 1000 ∧ ∀ H', Same H H' → Q (.bl (standB z t p)) H'
theorem may_use {b dx rg ra tx dxt asc afb : Addr} {z : Str} {t fb : List Nat} {p : Nat} (h : H b = some (.ins cs.s dx (nF rg ra (.stand z)))) (ht : TxtAt CT H tx dxt asc afb t fb) (hp : p ≤ 1000) (q : ∀ H', Same H H' → Q (.bl (standB z t p)) H') : spMay cs CT [.ref b, .ref tx, .int (p : Nat)] H Q E := by
  unfold spMay
  exact ⟨b, dx, rg, ra, tx, dxt, asc, afb, z, t, fb, p, rfl, h, ht, hp, q⟩
theorem scMay : FnScope ["self", "text", "place"] ["self", "text", "place"] (defScope (sSN 1)) := ⟨rfl, rfl, rfl, by decide +kernel, rfl, by decide +kernel, by decide +kernel⟩
theorem str_dec (x y : Str) : decide (V.str x = V.str y) = decide (x = y) := by
  by_cases c : x = y
  · rw [decide_eq_true c, c]
    exact decide_eq_true rfl
  · rw [decide_eq_false c]
    exact decide_eq_false fun h => c (by injection h)
theorem int_dec (x y : Nat) : decide (V.int (x : Nat) = V.int (y : Nat)) = decide (x = y) := by
  by_cases c : x = y
  · rw [decide_eq_true c, c]
    exact decide_eq_true rfl
  · rw [decide_eq_false c]
    exact decide_eq_false fun h => c (by injection h with h; exact Int.ofNat.inj h)
theorem ok_may {f : Addr} {fd : FuncData} (F : Fun K "may_stand" "Standpoint.may_stand" (sSN 1) f fd) (T : TxN K cs) (TT : TxT K CT) (M1 : MOk P w K mg base CX0 CT 2 "end_place" ["self"] (spEnd CT)) (M2 : MOk P w K mg base CX0 CT 5 "is_word_edge" ["self", "place"] (spEdge CT)) :
    FnOk P w K mg base CX0 6 f fd ["self", "text", "place"] (spMay cs CT) := by
  obtain ⟨f1, fd1, m1, b1, G1⟩ := M1
  obtain ⟨f2, fd2, m2, b2, G2⟩ := M2
  refine F.ok scMay (fun vs H Q E h => ?_) (fun cdv A outer s H vs Q E hr h => ⟨_, pss_cons (ps_if (pt_cmpR op_eq (pe_fld (pv 0) rfl) pe_str (nomark _)) (pss_one (ps_ret (pe_cmpR op_eq (pv 2) pe_int (nomark _)))) pss_nil)
      (pss_cons (ps_if (pt_cmpR op_eq (pe_fld (pv 0) rfl) pe_str (nomark _)) (pss_one (ps_ret (pe_cmpR op_eq (pv 2) (pe_meth0 (pv 1) TT.cl m1 G1 (hr.mono (by decide)) b1 .nil pass0) (nomark _)))) pss_nil)
      (pss_one (ps_ret (pe_meth (pv 1) TT.cl m2 G2 hr b2 .nil pass0 (by exact (pa_cons (pv 2) pa_nil)))))), ?_⟩)
  · unfold spMay at h
    obtain ⟨_, _, _, _, _, _, _, _, _, _, _, _, rfl, _⟩ := h
    rfl
  unfold spMay at h
  obtain ⟨b, dx, rg, ra, tx, dxt, asc, afb, z, t, fb, p, rfl, h, ht, hp, hQ⟩ := h
  refine ⟨_, rfl, b, cs.s, dx, _, _, rfl, h, T.cls, T.s1, lk_here, rfl, ?_⟩
  rw [str_dec]
  refine ⟨_, rfl, ?_⟩
  unfold standB at hQ
  by_cases c1 : z = "^"
  · rw [if_pos c1] at hQ
    refine if_true_of (decide_eq_true c1) ⟨_, rfl, rfl, ?_⟩
    have e : decide (V.int (p : Nat) = V.int 0) = decide (p = 0) := int_dec p 0
    rw [e]
    exact hQ H fun _ _ h => h
  · rw [if_neg c1] at hQ
    refine if_false_of (decide_eq_false c1) ?_
    refine ⟨_, rfl, b, cs.s, dx, _, _, rfl, h, T.cls, T.s1, lk_here, rfl, ?_⟩
    rw [str_dec]
    refine ⟨_, rfl, ?_⟩
    by_cases c2 : z = "$"
    · rw [if_pos c2] at hQ
      refine if_true_of (decide_eq_true c2) ⟨_, rfl, _, rfl, tx, dxt, _, rfl, ht.at_, tF_no (by decide +kernel), ?_⟩
      refine end_use ht ⟨rfl, ?_⟩
      rw [int_dec]
      exact hQ H fun _ _ h => h
    · rw [if_neg c2] at hQ
      refine if_false_of (decide_eq_false c2) ⟨_, rfl, tx, dxt, _, rfl, ht.at_, tF_no (by decide +kernel), _, rfl, ?_⟩
      exact edge_use ht hp hQ
theorem scSM : FnScope ["self", "text", "place"] ["self", "text"] (defScope (sSN 2)) := ⟨rfl, rfl, rfl, by decide +kernel, rfl, by decide +kernel, by decide +kernel⟩
theorem ok_sm {f : Addr} {fd : FuncData} (F : Fun K "measure" "Standpoint.measure" (sSN 2) f fd) (T : TxN K cs) (TT : TxT K CT) (hrange : mg "range" = none) (M1 : MOk P w K mg base CX0 CT 2 "end_place" ["self"] (spEnd CT)) (G2 : GOk P w K mg base CX0 3 "staying" ["count"] spStay) (M3 : MOk P w K mg base CX0 cs.s 6 "may_stand" ["self", "text", "place"] (spMay cs CT)) (d : Nat) :
    FnOk P w K mg base CX0 7 f fd ["self", "text"] (spMs K cs CT d .s) := by
  obtain ⟨f1, fd1, m1, b1, G1⟩ := M1
  obtain ⟨f2, fd2, gg2, k2, b2, G2⟩ := G2
  obtain ⟨f3, fd3, m3, b3, G3⟩ := M3
  refine F.ok scSM (fun vs H Q E h => ms_len h) (fun cdv A outer s H vs Q E hr h => ⟨_, pss_cons (ps_fld (pv 0) (pe_call G2 (hr.mono (by decide)) rfl gg2 k2 b2 .nil pass0 (by exact (pa_cons (pe_op op_add (pe_meth0 (pv 1) TT.cl m1 G1 (hr.mono (by decide)) b1 .nil pass0) pe_int) pa_nil))) rfl)
      (pss_one (ps_for PassesOwn.never rfl (pi_range1 rfl hrange (by exact (pa_cons (pe_op op_add (pe_meth0 (pv 1) TT.cl m1 G1 (hr.mono (by decide)) b1 .nil pass0) pe_int) pa_nil))) (pg_name (i := 2) scSM.nd rfl (Or.inl rfl))
        (pss_one (ps_if (pt_not (pt_val (pe_meth (pv 0) T.cls m3 G3 hr b3 .nil pass0 (by exact (pa_cons (pv 1) (pa_cons (pv 2) pa_nil))))))
          (pss_one (ps_asg pe_int (pg_sub (pe_fld (pv 0) rfl) (pv 2) set_list))) pss_nil)))), ?_⟩)
  unfold spMs at h
  obtain ⟨b, tx, dxt, asc, afb, t, fb, i, M, B, G, nm, rfl, hb, ht, hd, hs, hw, htx, hB, hQ⟩ := h
  obtain ⟨dx, kd, di, wf⟩ := i
  cases kd with
  | stand z =>
    obtain ⟨rg, ra, hn⟩ := hw.node b _ hb
    obtain ⟨hz, hst⟩ : (z = "^" ∨ z = "$" ∨ z = "b") ∧ wf = standW z := hs.stat b _ hb
    have htl := htx.tt.len
    refine ⟨_, rfl, tx, dxt, _, rfl, htx.tt.at_, tF_no (by decide +kernel), ?_⟩
    refine end_use htx.tt ⟨_, _, rfl, rfl, ?_⟩
    refine stay_useI (n := t.length + 1) (by omega) (by omega) fun H1 r s1 hrH er => ?_
    have hbr : b ≠ r := ne_of_none hn hrH
    refine ⟨_, rfl, b, cs.s, dx, _, rfl, s1 _ _ hn, T.cls, T.s2, nF_len _ _ _, ?_⟩
    rw [nF_put]
    have k0 : Kept H (upd H1 b (.ins cs.s dx (nF r ra (.stand z)))) b := (Kept.of_same s1).trans Kept.upd
    have htx2 : ∀ {H' : Hp}, Kept H H' b → TxtM M CT H' tx dxt asc afb t fb := fun k => htx.keep (KeepD.of_kept (d := di) k hb (Nat.le_refl _))
    refine ⟨_, rfl, tx, dxt, _, rfl, (htx2 k0).tt.at_, tF_no (by decide +kernel), ?_⟩
    refine end_use (htx2 k0).tt ⟨_, _, rfl, rfl, _, rfl, by omega, by omega, ?_⟩
    have e2 : ((((t.length : Nat) : Int) + 1).toNat) = t.length + 1 := by omega
    rw [e2]
    refine for_range (lo := 0) (n := t.length + 1) (fun j σ H' => (∃ v2, σ = [some (.ref b), some (.ref tx), v2]) ∧ Kept H H' b ∧ H' b = some (.ins cs.s dx (nF r ra (.stand z))) ∧ ∃ ns : List Nat, H' r = some (.lst (iv ns)) ∧ ns.length = t.length + 1 ∧ ∀ p, p ≤ t.length → ∀ e, (ns.getD p 0).testBit e = true ↔ (e = p ∧ (p < j → standB z t p = true))) ?_ ?_ ?_
    · refine ⟨⟨_, rfl⟩, k0, upd_same, stayL (t.length + 1), (upd_ne hbr.symm).trans er, (stay_rep _).1, fun p hp e => ?_⟩
      rw [(stay_rep t.length).2 p hp e]
      constructor
      · intro h; exact ⟨h.symm, fun x => by omega⟩
      · intro h; exact h.1.symm
    · rintro j σ H1 hj ⟨⟨v2, rfl⟩, k1, en, ns, e2, hnl, hns⟩
      have e0 : ((0 : Int) + (j : Nat)) = ((j : Nat) : Int) := by omega
      rw [e0]
      refine ⟨_, rfl, b, dx, _, rfl, en, nF_no (by decide +kernel) _ _ _, _, rfl, _, rfl, ?_⟩
      refine may_use en (htx2 k1).tt (by omega) fun H2 s2 => ?_
      have k2 := k1.trans (Kept.of_same s2)
      have en' := s2 _ _ en
      have e2' := s2 _ _ e2
      refine ⟨_, rfl, ?_⟩
      by_cases c : standB z t j = true
      · rw [c]
        refine if_false_of rfl ⟨⟨_, rfl⟩, k2, en', ns, e2', hnl, fun p hp e => ?_⟩
        rw [hns p hp e]
        constructor
        · rintro ⟨h1, h2⟩
          refine ⟨h1, fun h3 => ?_⟩
          by_cases cp : p = j
          · rw [cp]; exact c
          · exact h2 (by omega)
        · rintro ⟨h1, h2⟩
          exact ⟨h1, fun h3 => h2 (by omega)⟩
      · rw [Bool.eq_false_iff.mpr c]
        refine if_true_of rfl ?_
        refine ⟨_, rfl, b, cs.s, dx, _, _, rfl, en', T.cls, T.s2, nF_reach _ _ _, _, rfl, r, _, _, j, rfl, rfl, e2', ixN_nat (by rw [List.length_map]; omega), ?_⟩
        have eset : (iv ns).set j (V.int 0) = iv (ns.set j 0) := iv_set (m := 0)
        rw [eset]
        refine ⟨⟨_, rfl⟩, fun a o h n => ?_, (upd_ne hbr).trans en', ns.set j 0, upd_same, by rw [List.length_set]; exact hnl, fun p hp e => ?_⟩
        · rw [upd_ne (ne_of_none h hrH)]
          exact k2 a o h n
        · rw [set_get (by omega)]
          by_cases cp : p = j
          · rw [if_pos cp, Nat.zero_testBit]
            constructor
            · intro h; cases h
            · rintro ⟨_, h⟩
              rw [cp] at h
              exact absurd (h (by omega)) c
          · rw [if_neg cp, hns p hp e]
            exact ⟨fun h => ⟨h.1, fun x => h.2 (by omega)⟩, fun h => ⟨h.1, fun x => h.2 (by omega)⟩⟩
    · rintro σ H1 ⟨⟨v2, rfl⟩, k1, en, ns, e2, hnl, hns⟩
      have x := (Mid.refl (B := B) (t := t) (d := di) (b := b) hw).kept hs hb k1 (rg := r) (ra := ra) en
      refine hQ H1 (x.meas hb ⟨r, ra, ns, en, ⟨e2, hw.fresh hrH, fun y => hB _ y hrH⟩, ⟨hnl, fun p hp e => ?_⟩, trivial⟩ (fun _ m => nomatch m))
      rw [hns p hp e]
      subst hst
      show _ ↔ EndsOf (standW z) t p e
      rw [ends_stand]
      exact ⟨fun h => ⟨h.2 (by omega), h.1⟩, fun h => ⟨h.2, fun _ => h.1⟩⟩
  | one ar l neg => cases ht
  | row al bs => cases ht
  | choice al bs => cases ht
  | rep c m n => cases ht
  | cap k c => cases ht
end
end Pat
end

section
namespace Pat
open PySem PySem.Spec PyProof.Rows L2
open PatWords (Name)
open Ways (WF FwdW FitsW FitAll oneWF seqsWF altsWF repWF capWF)
open LRv (pe_listRev)
theorem Kids.get {M : PM} {d : Nat} : ∀ {bs : List Addr} {ws : List WF} {k : Nat} {b : Addr}, Kids M d bs ws → bs[k]? = some b → ∃ i, M b = some i ∧ i.d < d ∧ ws[k]? = some i.wf
  | [], [], _, _, _, e => nomatch e
  | [], _ :: _, _, _, h, _ => h.elim
  | _ :: _, [], _, _, h, _ => h.elim
  | b :: bs, w :: ws, 0, c, ⟨⟨i, h1, h2, h3⟩, _⟩, e => by
    cases e
    exact ⟨i, h1, h2, by rw [h3]; rfl⟩
  | b :: bs, w :: ws, k + 1, c, ⟨_, h2⟩, e => Kids.get (bs := bs) (ws := ws) (k := k) h2 e
theorem Kids.len {M : PM} {d : Nat} : ∀ {bs : List Addr} {ws : List WF}, Kids M d bs ws → bs.length = ws.length
  | [], [], _ => rfl
  | [], _ :: _, h => h.elim
  | _ :: _, [], h => h.elim
  | _ :: _, _ :: _, ⟨_, h2⟩ => congrArg (· + 1) (Kids.len h2)
theorem ends_seq {w : WF} {ws : List WF} {t : List Nat} {p e : Nat} : EndsOf (seqsWF (w :: ws)) t p e ↔ Comp (EndsOf w t) (EndsOf (seqsWF ws) t) p e := by
  unfold EndsOf Comp
  show e ∈ Ways.ends ((w t p).flatMap (Ways.glue (seqsWF ws t))) ↔ _
  rw [Ways.ends_flat]
  constructor
  · rintro ⟨z, hz, he⟩
    exact ⟨z.1, Ways.mem_ends.mpr ⟨z, hz, rfl⟩, he⟩
  · rintro ⟨j, hj, he⟩
    obtain ⟨z, hz, rfl⟩ := Ways.mem_ends.mp hj
    exact ⟨z, hz, he⟩
theorem ends_alt {w : WF} {ws : List WF} {t : List Nat} {p e : Nat} : EndsOf (altsWF (ws ++ [w])) t p e ↔ EndsOf (altsWF ws) t p e ∨ EndsOf w t p e := by
  unfold EndsOf altsWF
  rw [List.flatMap_append, Ways.ends, List.map_append, List.mem_append]
  simp [Ways.ends]
theorem ends_cap {n : Name} {w : WF} {t : List Nat} {p e : Nat} : EndsOf (capWF n w) t p e ↔ EndsOf w t p e := by
  unfold EndsOf capWF Ways.ends
  rw [List.map_map]
  rfl
section
variable {P : Program} {w : World} {K : PySem.W.Frag} {mg : Str → Option Value} {base : Heap} {cs : Cs} {CT : Addr} {H : Hp} {Q : VK} {E : XK}
/-! ### Row.measure -/
theorem scRM : FnScope ["self", "text", "reaches", "step"] ["self", "text"] (defScope (sRN 1)) := ⟨rfl, rfl, rfl, by decide +kernel, rfl, by decide +kernel, by decide +kernel⟩
theorem rF_reachR {rg ra al : Addr} {bs : List Addr} : (nF rg ra (.row al bs)).lookup ("reach_after" : Str) = some (.ref ra) := (lk_past (by decide +kernel)).trans ((lk_past (by decide +kernel)).trans lk_here)
theorem rF_putR {rg ra x al : Addr} {bs : List Addr} : putF "reach_after" (.ref x) (nF rg ra (.row al bs)) = nF rg x (.row al bs) := (put_past (by decide +kernel)).trans (congrArg _ ((put_past (by decide +kernel)).trans (congrArg _ put_here)))
theorem ok_rm {f : Addr} {fd : FuncData} (F : Fun K "measure" "Row.measure" (sRN 1) f fd) (T : TxN K cs) (TT : TxT K CT) (hrev : mg "reversed" = none) (hlist : mg "list" = none) (M1 : MOk P w K mg base CX0 CT 2 "end_place" ["self"] (spEnd CT)) (G2 : GOk P w K mg base CX0 3 "staying" ["count"] spStay) (G3 : GOk P w K mg base CX0 3 "one_behind_other" ["reach", "next_reach"] (spObo K))
    (d L : Nat) (hL : 6 ≤ L) (MM : ∀ τ, MOk P w K mg base CX0 (cs.tag τ) L "measure" ["self", "text"] (spMs K cs CT d τ)) : FnOk P w K mg base CX0 (L + 1) f fd ["self", "text"] (spMs K cs CT (d + 1) .r) := by
  obtain ⟨f1, fd1, m1, b1, G1⟩ := M1
  obtain ⟨f2, fd2, gg2, k2, b2, G2⟩ := G2
  obtain ⟨f3, fd3, gg3, k3, b3, G3⟩ := G3
  refine F.ok scRM (fun vs H Q E h => ms_len h) (fun cdv A outer s H vs Q E hr h => ⟨_, pss_cons (ps_set (i := 2) scRM.nd rfl (.inl rfl) (pe_lst (by exact (pa_cons (pe_call G2 (hr.mono (by omega)) rfl gg2 k2 b2 .nil pass0 (by exact (pa_cons (pe_op op_add (pe_meth0 (pv 1) TT.cl m1 G1 (hr.mono (by omega)) b1 .nil pass0) pe_int) pa_nil))) pa_nil))))
      (pss_cons (ps_for PassesOwn.never rfl (pi_reversed rfl hrev (by exact (pa_cons (pe_fld (pv 0) rfl) pa_nil))) (pg_name (i := 3) scRM.nd rfl (Or.inl rfl))
        (pss_cons (ps_expr (pe_poly MM T hr (pv 3) (by exact (pa_cons (pv 1) pa_nil))))
        (pss_one (ps_expr (pe_bm PySem.F.plainAttrs_list PySem.F.slot_list_append PySem.F.type_list_append mt_append (pv 2) (by exact (pa_cons (pe_call G3 (hr.mono (by omega)) rfl gg3 k3 b3 .nil pass0 (by exact (pa_cons (pe_fld (pv 3) rfl) (pa_cons (pe_ix ix_list (pv 2) (pe_un un_neg pe_int) (fun _ _ => rfl)) pa_nil)))) pa_nil)))))))
      (pss_cons (ps_fld (pv 0) (pe_listRev rfl rfl hlist rfl hrev (pv 2)) rfl)
      (pss_one (ps_fld (pv 0) (pe_ix ix_list (pe_fld (pv 0) rfl) pe_int (fun _ _ => rfl)) rfl)))), ?_⟩)
  unfold spMs at h
  obtain ⟨b, tx, dxt, asc, afb, t, fb, i, M, B, G, nm, rfl, hb, ht, hd, hs, hw, htx, hB, hQ⟩ := h
  obtain ⟨dx, kd, di, wf⟩ := i
  cases kd with
  | row al bs =>
    obtain ⟨rg0, ra0, hn0⟩ := hw.node b _ hb
    obtain ⟨hbl, ws, hkids, hst⟩ : bs.length ≤ 1000 ∧ ∃ ws, Kids M di bs ws ∧ wf = seqsWF ws := hs.stat b _ hb
    have hal : G al = some (.lst (bs.map V.ref)) := hs.aux b _ hb
    have htl := htx.tt.len
    have hkl := hkids.len
    refine ⟨_, rfl, tx, dxt, _, rfl, htx.tt.at_, tF_no (by decide +kernel), ?_⟩
    refine end_use htx.tt ⟨_, _, rfl, rfl, ?_⟩
    refine stay_useI (n := t.length + 1) (by omega) (by omega) fun H1 r s1 hrH er => ?_
    refine ⟨by show 1 ≤ sizeLine; decide, fun ar har => ?_⟩
    have hn : H ar = none := none_same s1 har
    have hMar : M ar = none := hw.fresh hn
    have hrar : r ≠ ar := ne_of_none er har
    have x2 : Mid cs M (plusB B ar) G t di b H (upd H1 ar (.lst [V.ref r])) := ((Mid.refl hw).same s1).same (Same.upd har)
    obtain ⟨rg2, ra2, hn2⟩ := x2.w.node b _ hb
    have notB : ∀ {H' : Hp} {q : Addr}, Mid cs M (plusB B ar) G t di b H H' → H' q = none → q ≠ ar → ¬ plusB B ar q := fun x e n y => y.elim (fun y => x.dom (hB _ y) e) n
    refine ⟨_, rfl, b, cs.r, dx, _, _, rfl, hn2, T.clr, T.r1, lk_here, al, _, rfl, SqL.of (x2.w.same _ _ hal), ?_⟩
    refine for_it walk_rev (fun j σ H' => (∃ v3, σ = [some (.ref b), some (.ref tx), some (.ref ar), v3]) ∧ Mid cs M (plusB B ar) G t di b H H' ∧ (∀ c ∈ bs.drop (bs.length - j), DT cs M (plusB B ar) t H' c) ∧ ∃ rs : List Addr, H' ar = some (.lst (rs.map V.ref)) ∧ rs.length = j + 1 ∧ ∀ k r, rs[k]? = some r → ∃ ks, LsAt M (plusB B ar) H' r ks ∧ Rep t.length ks (EndsOf (seqsWF (ws.drop (ws.length - k))) t)) ?_ (fun j σ H' _ h => SqL.of (h.2.1.w.same _ _ hal)) ?_ ?_
    · refine ⟨⟨_, rfl⟩, x2, fun c m => ?_, [r], upd_same, rfl, fun k r' e => ?_⟩
      · rw [Nat.sub_zero, List.drop_length] at m
        cases m
      · cases k with
        | zero =>
          cases e
          refine ⟨_, ⟨(upd_ne hrar).trans er, hw.fresh hrH, fun y => y.elim (fun y => hB _ y hrH) hrar⟩, (stay_rep t.length).congr fun p hp e => ?_⟩
          rw [Nat.sub_zero, List.drop_length]
          show _ ↔ e ∈ [p]
          rw [List.mem_singleton]
          exact ⟨fun h => h.symm, fun h => h.symm⟩
        | succ k => cases e
    · rintro j y σ H2 H2' hj ⟨⟨v3, rfl⟩, x2, hk2, rs, e2, hrl, hrs⟩ ⟨rfl, hy⟩
      rw [List.length_map] at hj hy
      rw [List.getElem?_map] at hy
      obtain ⟨c, hc, rfl⟩ : ∃ c, bs[bs.length - 1 - j]? = some c ∧ y = V.ref c := by
        cases e : bs[bs.length - 1 - j]? with
        | none => rw [e] at hy; cases hy
        | some c => rw [e] at hy; exact ⟨c, rfl, (Option.some.inj hy).symm⟩
      obtain ⟨ic, hic, hicd, hwc⟩ := hkids.get hc
      obtain ⟨rgc, rac, hnc⟩ := x2.w.node c ic hic
      have htx2 := htx.keep x2.k
      refine ⟨tagOf ic.kd, _, rfl, c, ic.dx, _, rfl, by rw [← at_tag]; exact hnc, nF_no (by decide +kernel) _ _ _, _, rfl, ?_⟩
      refine ms_use (B := plusB B ar) hic rfl (by have hd' : di < d + 1 := hd; omega) hs x2.w htx2 (fun q hq => hq.elim (fun y => x2.dom (hB _ y)) fun y => by rw [y, e2]; exact fun h => nomatch h) fun H3 m3 => ?_
      have x3 := x2.kid m3 (Nat.le_of_lt hicd)
      have e3 : H3 ar = some (.lst (rs.map V.ref)) := m3.k.stay hMar e2
      obtain ⟨ic', hic', rgc3, rac3, nsc, hnc3, lc, repc, _⟩ := m3.new
      rw [hic] at hic'
      cases hic'
      have hrne : rs ≠ [] := fun e => by rw [e] at hrl; cases hrl
      obtain ⟨rs0, rl, ers⟩ : ∃ rs0 rl, rs = rs0 ++ [rl] := ⟨_, _, (List.dropLast_concat_getLast hrne).symm⟩
      have hrs0 : rs0.length = j := by rw [ers, List.length_append] at hrl; simpa using hrl
      obtain ⟨ksl, ll, repl⟩ := hrs j rl (by rw [ers, ← hrs0]; simp)
      have ll3 := ll.keep m3.k
      refine ⟨_, rfl, .inl ⟨rfl, _, SqL.of e3⟩, _, rfl, c, cs.at ic.kd, ic.dx, _, _, rfl, hnc3, by rw [at_tag]; exact T.cl _, by rw [at_tag]; exact T.re _, nF_reach _ _ _, ?_⟩
      refine ⟨_, rfl, _, rfl, ar, _, _, _, rfl, rfl, SqL.of e3, by rw [ers, List.map_append]; exact atI_last _ _, ?_⟩
      refine obo_use (SqL.of lc.1) (SqL.of ll3.1) (by omega) repc repl (ends_onw (hs.fwd c ic hic) t) fun H4 r4 ks s4 hr4 e4 rep4 => ?_
      have x4 := x3.same s4
      have ear4 := s4 _ _ e3
      have hr4a : r4 ≠ ar := fun e => by rw [e, e3] at hr4; cases hr4
      refine ⟨ar, _, _, rfl, rfl, ear4, by rw [List.length_map, hrl]; exact small1000 (by omega), ?_⟩
      have hrep : Rep t.length ks (EndsOf (seqsWF (ws.drop (ws.length - (j + 1)))) t) := rep4.congr fun p hp e => by
        have hwk : ws.length - 1 - j < ws.length := by omega
        have hdr : ws.drop (ws.length - (j + 1)) = ic.wf :: ws.drop (ws.length - j) := by
          have e5 : ws.length - (j + 1) = ws.length - 1 - j := by omega
          have e6 : ws[ws.length - 1 - j]? = some ic.wf := by rw [← hkl]; exact hwc
          obtain ⟨hlt, e7⟩ := List.getElem?_eq_some_iff.mp e6
          rw [e5, List.drop_eq_getElem_cons hlt, e7]
          congr 2
          omega
        rw [hdr, ends_seq]
      refine ⟨⟨_, rfl⟩, x4.busy (.inr rfl) hn hw.same ear4, fun c' m => ?_, rs ++ [r4], by rw [List.map_append]; exact upd_same, by rw [List.length_append, hrl]; rfl, fun k r' e => ?_⟩
      · have hbk : bs.drop (bs.length - (j + 1)) = c :: bs.drop (bs.length - j) := by
          have e5 : bs.length - (j + 1) = bs.length - 1 - j := by omega
          obtain ⟨hlt, e7⟩ := List.getElem?_eq_some_iff.mp hc
          rw [e5, List.drop_eq_getElem_cons hlt, e7]
          congr 2
          omega
        rw [hbk] at m
        have key : DT cs M (plusB B ar) t H3 c' := by
          rcases List.mem_cons.mp m with e | m
          · rw [e]; exact m3.tree
          · exact (hk2 c' m).meas hs m3
        exact (key.same hs s4).busy hs (.inr rfl) ear4
      · by_cases ck : k < rs.length
        · rw [List.getElem?_append_left ck] at e
          obtain ⟨ks', l', rep'⟩ := hrs k r' e
          have l4 := (l'.keep m3.k).keep (KeepD.of_same (d := 0) s4)
          exact ⟨ks', ⟨(upd_ne (fun y => l4.2.2 (.inr y))).trans l4.1, l4.2⟩, rep'⟩
        · rw [List.getElem?_append_right (by omega)] at e
          have ek : k = j + 1 := by
            have := (List.getElem?_eq_some_iff.mp e).1
            simp at this
            omega
          rw [ek, hrl, Nat.sub_self] at e
          cases e
          rw [ek]
          exact ⟨ks, ⟨(upd_ne hr4a).trans e4, x3.w.fresh hr4, notB x3 hr4 hr4a⟩, hrep⟩
    · rintro σ H5 ⟨⟨v3, rfl⟩, x5, hk5, rs, e5, hrl, hrs⟩
      rw [List.length_map] at hk5 hrl
      refine ⟨_, rfl, ar, _, rfl, SqL.of e5, fun q hq => ?_⟩
      have x6 := x5.same (Same.upd (o := HO.lst (rs.map V.ref).reverse) hq)
      obtain ⟨rg6, ra6, hn6⟩ := x6.w.node b _ hb
      refine ⟨_, rfl, b, cs.r, dx, _, rfl, hn6, T.clr, T.r3, nF_len _ _ _, ?_⟩
      rw [rF_putR]
      have x7 := x6.put hs hb (rg := rg6) (ra := q)
      have hqb : q ≠ b := fun e => by
        obtain ⟨_, _, h⟩ := x5.w.node b _ hb
        rw [← e, hq] at h
        cases h
      have eq7 : upd (upd H5 q (.lst (rs.map V.ref).reverse)) b (.ins cs.r dx (nF rg6 q (.row al bs))) q = some (.lst (rs.reverse.map V.ref)) := (upd_ne hqb).trans (by rw [List.map_reverse]; exact upd_same)
      -- the last one is the first
      have hrr : ∀ k r, rs.reverse[k]? = some r → ∃ ks, LsAt M (plusB B ar) H5 r ks ∧ Rep t.length ks (EndsOf (seqsWF (ws.drop k)) t) := fun k r e => by
        have hkl2 := (List.getElem?_eq_some_iff.mp e).1
        rw [List.length_reverse] at hkl2
        rw [List.getElem?_reverse hkl2] at e
        obtain ⟨ks, l, rep⟩ := hrs _ r e
        have e8 : ws.length - (rs.length - 1 - k) = k := by omega
        rw [e8] at rep
        exact ⟨ks, l, rep⟩
      obtain ⟨r0, hr0⟩ : ∃ r0, rs.reverse[0]? = some r0 := ⟨_, List.getElem?_eq_getElem (by rw [List.length_reverse]; omega)⟩
      refine ⟨_, rfl, b, cs.r, dx, _, _, rfl, upd_same, T.clr, T.r3, rF_reachR, q, _, _, _, rfl, rfl, SqL.of eq7, atI_nat (j := 0) (by rw [List.getElem?_map, hr0]; rfl), ?_⟩
      refine ⟨_, rfl, b, cs.r, dx, _, rfl, upd_same, T.clr, T.r2, nF_len _ _ _, ?_⟩
      rw [nF_put]
      have x8 := x7.put hs hb (rg := r0) (ra := q)
      have s6 : Same H5 (upd H5 q (.lst (rs.map V.ref).reverse)) := Same.upd hq
      have lkeep : ∀ {r : Addr} {ks : List Nat}, LsAt M (plusB B ar) H5 r ks → LsAt M (plusB B ar) (upd (upd (upd H5 q (.lst (rs.map V.ref).reverse)) b (.ins cs.r dx (nF rg6 q (.row al bs)))) b (.ins cs.r dx (nF r0 q (.row al bs)))) r ks := fun {r ks} l => by
        have hrb : r ≠ b := fun e => by
          obtain ⟨_, _, h⟩ := x5.w.node b _ hb
          rw [← e, l.1] at h
          cases h
        exact ⟨(upd_ne hrb).trans ((upd_ne hrb).trans (s6 _ _ l.1)), l.2⟩
      obtain ⟨ks0, l0, rep0⟩ := hrr 0 r0 hr0
      have hqa : q ≠ ar := fun e => by rw [e, e5] at hq; cases hq
      refine hQ _ ((x8.meas hb ⟨r0, q, ks0, upd_same, lkeep l0, ?_, rs.reverse, ws, di, (upd_ne hqb).trans eq7, x5.w.fresh hq, notB x5 hq hqa, by rw [List.length_reverse]; exact hrl, hkids, fun k r e => ?_⟩ fun c m => ?_).weak hs hn)
      · rw [hst]
        exact rep0
      · obtain ⟨ks, l, rep⟩ := hrr k r e
        exact ⟨ks, lkeep l, rep⟩
      · have m : c ∈ bs := m
        obtain ⟨jc, hjc, hlt⟩ := kids_mem hkids c m
        have := hk5 c (by rw [Nat.sub_self]; exact m)
        exact ((this.same hs s6).put hs hb hjc hlt).put hs hb hjc hlt
  | one ar l neg => cases ht
  | stand z => cases ht
  | choice al bs => cases ht
  | rep c m n => cases ht
  | cap k c => cases ht
/-! ### Capture.measure -/
theorem scKM : FnScope ["self", "text"] ["self", "text"] (defScope (sKN 1)) := ⟨rfl, rfl, rfl, by decide +kernel, rfl, by decide +kernel, by decide +kernel⟩
theorem kF_body {rg ra b : Addr} {k : Nat} : (nF rg ra (.cap k b)).lookup ("body" : Str) = some (.ref b) := (lk_past (by decide +kernel)).trans lk_here
theorem ok_km {f : Addr} {fd : FuncData} (F : Fun K "measure" "Capture.measure" (sKN 1) f fd) (T : TxN K cs) (d L : Nat) (MM : ∀ τ, MOk P w K mg base CX0 (cs.tag τ) L "measure" ["self", "text"] (spMs K cs CT d τ)) : FnOk P w K mg base CX0 (L + 1) f fd ["self", "text"] (spMs K cs CT (d + 1) .k) := by
  refine F.ok scKM (fun vs H Q E h => ms_len h) (fun cdv A outer s H vs Q E hr h => ⟨_, pss_cons (ps_expr (pe_poly MM T hr (pe_fld (pv 0) rfl) (by exact (pa_cons (pv 1) pa_nil))))
      (pss_one (ps_fld (pv 0) (pe_fld (pe_fld (pv 0) rfl) rfl) rfl)), ?_⟩)
  unfold spMs at h
  obtain ⟨b, tx, dxt, asc, afb, t, fb, i, M, B, G, nm, rfl, hb, ht, hd, hs, hw, htx, hB, hQ⟩ := h
  obtain ⟨dx, kd, di, wf⟩ := i
  cases kd with
  | cap k c =>
    obtain ⟨rg, ra, hn⟩ := hw.node b _ hb
    obtain ⟨j, n, hj, hjd, hnk, hst⟩ : ∃ j n, M c = some j ∧ j.d < di ∧ nm[k]? = some n ∧ wf = capWF n j.wf := hs.stat b _ hb
    obtain ⟨rgc, rac, hnc⟩ := hw.node c j hj
    refine ⟨tagOf j.kd, _, rfl, b, cs.k, dx, _, _, rfl, hn, T.clk, T.k2, kF_body, c, j.dx, _, rfl, by rw [← at_tag]; exact hnc, nF_no (by decide +kernel) _ _ _, _, rfl, ?_⟩
    refine ms_use (B := B) hj rfl (by have hd' : di < d + 1 := hd; omega) hs hw htx hB fun H3 m3 => ?_
    have x3 : Mid cs M B G t di b H H3 := (Mid.refl hw).kid m3 (Nat.le_of_lt hjd)
    have e3 : H3 b = some (.ins cs.k dx (nF rg ra (.cap k c))) := m3.k _ _ hn (fun j' hj' => by rw [hb] at hj'; cases hj'; exact hjd)
    obtain ⟨ic', hic', rgc3, rac3, nsc, hnc3, lc, repc, _⟩ := m3.new
    rw [hj] at hic'
    cases hic'
    refine ⟨_, rfl, b, cs.k, dx, _, _, rfl, e3, T.clk, T.k2, kF_body, c, cs.at j.kd, j.dx, _, _, rfl, hnc3, by rw [at_tag]; exact T.cl _, by rw [at_tag]; exact T.re _, nF_reach _ _ _, ?_⟩
    refine ⟨_, rfl, b, cs.k, dx, _, rfl, e3, T.clk, T.k3, nF_len _ _ _, ?_⟩
    rw [nF_put]
    have hbr : rgc3 ≠ b := fun e => by
      have := lc.1
      rw [e, e3] at this
      cases this
    refine hQ _ ((x3.put hs hb (rg := rgc3) (ra := ra)).meas hb ⟨rgc3, ra, nsc, upd_same, ⟨(upd_ne hbr).trans lc.1, lc.2⟩, repc.congr fun p hp e => ?_, trivial⟩ fun c' m => by
      rw [List.mem_singleton.mp m]
      exact m3.tree.put hs hb hj hjd)
    rw [hst]
    exact ends_cap.symm
  | one ar l neg => cases ht
  | stand z => cases ht
  | row al bs => cases ht
  | choice al bs => cases ht
  | rep c m n => cases ht
end
end Pat
end

section
namespace Pat
open PySem PySem.Spec PyProof.Rows L2
open PatWords (Name)
open Ways (WF FwdW FitsW FitAll oneWF seqsWF altsWF repWF capWF)
open LRv (pe_listRev)
section
variable {P : Program} {w : World} {K : PySem.W.Frag} {mg : Str → Option Value} {base : Heap} {cs : Cs} {CT : Addr} {H : Hp} {Q : VK} {E : XK}
/-! ### Choice.measure -/
abbrev nmCM : List Str := ["self", "text", "row", "ours", "more"]
theorem scCM : FnScope nmCM ["self", "text"] (defScope (sCN 1)) := ⟨rfl, rfl, rfl, by decide +kernel, rfl, by decide +kernel, by decide +kernel⟩
theorem ok_cm {f : Addr} {fd : FuncData} (F : Fun K "measure" "Choice.measure" (sCN 1) f fd) (T : TxN K cs) (TT : TxT K CT) (hzip : mg "zip" = none) (M1 : MOk P w K mg base CX0 CT 2 "end_place" ["self"] (spEnd CT))
    (d L : Nat) (hL : 6 ≤ L) (MM : ∀ τ, MOk P w K mg base CX0 (cs.tag τ) L "measure" ["self", "text"] (spMs K cs CT d τ)) : FnOk P w K mg base CX0 (L + 1) f fd ["self", "text"] (spMs K cs CT (d + 1) .c) := by
  obtain ⟨f1, fd1, m1, b1, G1⟩ := M1
  refine F.ok scCM (fun vs H Q E h => ms_len h) (fun cdv A outer s H vs Q E hr h => ⟨_, pss_cons (ps_fld (pv 0) (pe_op op_rep (pe_lst (pa_cons pe_int pa_nil)) (pe_op op_add (pe_meth0 (pv 1) TT.cl m1 G1 (hr.mono (by omega)) b1 .nil pass0) pe_int)) rfl)
      (pss_one (ps_for PassesOwn.never rfl (pi_list (pe_fld (pv 0) rfl)) (pg_name (i := 2) scCM.nd rfl (Or.inl rfl))
        (pss_cons (ps_expr (pe_poly MM T hr (pv 2) (by exact (pa_cons (pv 1) pa_nil))))
        (pss_one (ps_fld (pv 0) (pe_lc (own := [("ours", 3), ("more", 4)]) (g := gTup K 2 (gCons (gName 3) (gCons (gName 4) gNil))) (tt := tYes) (te := tOp (rI0 fun i j => .int (Builtin.bitOr i j)) (tVar 3) (tVar 4)) rfl scCM.nd (pi_zip (by rfl) hzip (by exact (pa_cons (pe_fld (pv 0) rfl) (pa_cons (pe_fld (pv 2) rfl) pa_nil)))) (blkOk_by (N := nmCM) (sc := defScope (sCN 1)) (by decide +kernel))
            (fun _ _ _ _ _ => pg_tup rfl (pgs_cons (pg_name (i := 3) scCM.nd rfl (Or.inl rfl)) (pgs_cons (pg_name (i := 4) scCM.nd rfl (Or.inl rfl)) pgs_nil))) (fun _ _ _ _ _ => pts_nil)
            (fun _ _ _ _ _ => by exact (pe_op op_or (pv 3) (pv 4)))) rfl))))), ?_⟩)
  unfold spMs at h
  obtain ⟨b, tx, dxt, asc, afb, t, fb, i, M, B, G, nm, rfl, hb, ht, hd, hs, hw, htx, hB, hQ⟩ := h
  obtain ⟨dx, kd, di, wf⟩ := i
  cases kd with
  | choice al bs =>
    obtain ⟨rg0, ra0, hn0⟩ := hw.node b _ hb
    obtain ⟨hbl, ws, hkids, hst⟩ : bs.length ≤ 1000 ∧ ∃ ws, Kids M di bs ws ∧ wf = altsWF ws := hs.stat b _ hb
    have hal : G al = some (.lst (bs.map V.ref)) := hs.aux b _ hb
    have htl := htx.tt.len
    have hkl := hkids.len
    refine ⟨by show 1 ≤ sizeLine; decide, fun z hz => ?_⟩
    have htx1 := htx.keep (KeepD.of_same (d := 0) (Same.upd (o := HO.lst [V.int 0]) hz))
    refine ⟨_, rfl, tx, dxt, _, rfl, htx1.tt.at_, tF_no (by decide +kernel), ?_⟩
    refine end_use htx1.tt ?_
    refine ⟨_, _, rfl, rfl, z, _, _, rfl, rfl, upd_same, by omega, by omega, ?_, fun r hr0 => ?_⟩
    · show 1 * ((((t.length : Nat) : Int) + 1).toNat) ≤ sizeLine
      exact Nat.le_of_lt (small1000 (by omega))
    have en : ((((t.length : Nat) : Int) + 1).toNat) = t.length + 1 := by omega
    rw [en, rep_flat, iv_zero]
    have x0 : Mid cs M B G t di b H (upd H z (.lst [V.int 0])) := (Mid.refl hw).same (Same.upd hz)
    have x1 := x0.same (Same.upd (o := HO.lst (iv (List.replicate (t.length + 1) 0))) hr0)
    obtain ⟨rg1, ra1, hn1⟩ := x1.w.node b _ hb
    have hbr : r ≠ b := fun e => by rw [e, upd_same] at hn1; cases hn1
    refine ⟨_, rfl, b, cs.c, dx, _, rfl, hn1, T.clc, T.c2, nF_len _ _ _, ?_⟩
    rw [nF_put]
    have x2 := x1.put hs hb (rg := r) (ra := ra1)
    refine ⟨_, rfl, b, cs.c, dx, _, _, rfl, upd_same, T.clc, T.c1, lk_here, al, rfl, ⟨_, SqL.of (x2.w.same _ _ hal)⟩, ?_⟩
    refine for_list (xs := bs.map V.ref) (fun j σ H' => (∃ v2, σ = [some (.ref b), some (.ref tx), v2, none, none]) ∧ Mid cs M B G t di b H H' ∧ (∀ c ∈ bs.take j, DT cs M B t H' c) ∧ ∃ r ra ns, H' b = some (.ins cs.c dx (nF r ra (.choice al bs))) ∧ LsAt M B H' r ns ∧ Rep t.length ns (EndsOf (altsWF (ws.take j)) t)) ?_ (fun j σ H' _ h => SqL.of (h.2.1.w.same _ _ hal)) ?_ ?_
    · refine ⟨⟨_, rfl⟩, x2, (fun c m => nomatch m), r, ra1, _, upd_same, ⟨(upd_ne hbr).trans upd_same, x0.w.fresh hr0, fun y => x0.dom (hB _ y) hr0⟩, List.length_replicate, fun p _ e => ?_⟩
      rw [zeros_get, Nat.zero_testBit]
      constructor
      · intro h; cases h
      · intro h; cases h
    · rintro j y σ H2 hy ⟨⟨v2, rfl⟩, x2, hk2, r2, ra2, ns2, e2, l2, rep2⟩
      rw [List.getElem?_map] at hy
      obtain ⟨c, hc, rfl⟩ : ∃ c, bs[j]? = some c ∧ y = V.ref c := by
        cases e : bs[j]? with
        | none => rw [e] at hy; cases hy
        | some c => rw [e] at hy; exact ⟨c, rfl, (Option.some.inj hy).symm⟩
      obtain ⟨ic, hic, hicd, hwc⟩ := hkids.get hc
      obtain ⟨rgc, rac, hnc⟩ := x2.w.node c ic hic
      have htx2 := htx.keep x2.k
      refine ⟨tagOf ic.kd, _, rfl, c, ic.dx, _, rfl, by rw [← at_tag]; exact hnc, nF_no (by decide +kernel) _ _ _, _, rfl, ?_⟩
      refine ms_use (B := B) hic rfl (by have hd' : di < d + 1 := hd; omega) hs x2.w htx2 (fun q hq => x2.dom (hB _ hq)) fun H3 m3 => ?_
      have x3 := x2.kid m3 (Nat.le_of_lt hicd)
      have e3 : H3 b = some (.ins cs.c dx (nF r2 ra2 (.choice al bs))) := m3.k _ _ e2 (fun j' hj' => by rw [hb] at hj'; cases hj'; exact hicd)
      have l3 := l2.keep m3.k
      obtain ⟨ic', hic', rgc3, rac3, nsc, hnc3, lc, repc, _⟩ := m3.new
      rw [hic] at hic'
      cases hic'
      refine ⟨_, rfl, b, cs.c, dx, _, _, rfl, e3, T.clc, T.c2, nF_reach _ _ _, _, rfl, c, cs.at ic.kd, ic.dx, _, _, rfl, hnc3, by rw [at_tag]; exact T.cl _, by rw [at_tag]; exact T.re _, nF_reach _ _ _, ?_⟩
      refine ⟨r2, rgc3, _, _, rfl, SqL.of l3.1, SqL.of lc.1, fun D hD => ?_⟩
      refine lc_it (walk_zip (n := t.length + 1) (by rw [List.length_map, List.length_map, rep2.1, repc.1, Nat.min_self])) (fun i H' => Same H3 H' ∧ ∃ ks : List Nat, H' D = some (.lst (iv ks)) ∧ ks.length = i ∧ ∀ p, p < i → ∀ e, (ks.getD p 0).testBit e = true ↔ (EndsOf (altsWF (ws.take j)) t p e ∨ EndsOf ic.wf t p e)) ?_ (fun i H' _ h => ⟨SqL.of (h.1 _ _ l3.1), SqL.of (h.1 _ _ lc.1)⟩) ?_ ?_
      · exact ⟨Same.upd hD, [], upd_same, rfl, fun p hp => by omega⟩
      · rintro i x H4 H5 hi ⟨s4, ks, e4, hkl4, hk4⟩ ⟨Tp, x0, y0, rfl, hT, rfl, hx0, hy0⟩
        have hin : i ≤ t.length := by omega
        have hx0 : (iv ns2)[i]? = some x0 := hx0
        have hy0 : (iv nsc)[i]? = some y0 := hy0
        rw [iv_at (rep2.get hin)] at hx0
        rw [iv_at (repc.get hin)] at hy0
        cases hx0
        cases hy0
        have hDT : D ≠ Tp := ne_of_none e4 hT
        refine ⟨Tp, _, rfl, SqT.of upd_same, rfl, _, _, rfl, _, _, rfl, rfl, rfl, ?_⟩
        unfold tYes
        dsimp only
        rw [if_pos rfl]
        refine ⟨_, rfl, _, rfl, _, _, rfl, rfl, ?_⟩
        dsimp only
        rw [Bits.int_or]
        refine ⟨_, (upd_ne hDT).trans e4, by rw [List.length_map, hkl4]; exact small1000 (by omega), Same.upd' (Same.upd' s4 (none_same s4 hT)) hD, ks ++ [ns2.getD i 0 ||| nsc.getD i 0], by rw [upd_same, iv_snoc], by rw [List.length_append, hkl4]; rfl, fun p hp e => ?_⟩
        by_cases cp : p < i
        · have : (ks ++ [ns2.getD i 0 ||| nsc.getD i 0]).getD p 0 = ks.getD p 0 := by
            rw [List.getD_eq_getElem?_getD, List.getElem?_append_left (by omega), ← List.getD_eq_getElem?_getD]
          rw [this]
          exact hk4 p cp e
        · have ep : p = i := by omega
          subst ep
          have : (ks ++ [ns2.getD p 0 ||| nsc.getD p 0]).getD p 0 = ns2.getD p 0 ||| nsc.getD p 0 := by
            rw [List.getD_eq_getElem?_getD, List.getElem?_append_right (by omega), hkl4, Nat.sub_self]
            rfl
          rw [this, Nat.testBit_or, Bool.or_eq_true, rep2.2 p hin e, repc.2 p hin e]
      · rintro H4 ⟨s4, ks, e4, hkl4, hk4⟩
        have x4 := x3.same s4
        have hDb : D ≠ b := fun e => by rw [e, e3] at hD; cases hD
        refine ⟨_, rfl, b, cs.c, dx, _, rfl, s4 _ _ e3, T.clc, T.c2, nF_len _ _ _, ?_⟩
        rw [nF_put]
        refine ⟨⟨_, rfl⟩, x4.put hs hb (rg := D) (ra := ra2), fun c' m => ?_, D, ra2, ks, upd_same, ⟨(upd_ne hDb).trans e4, x3.w.fresh hD, fun y => x3.dom (hB _ y) hD⟩, hkl4, fun p hp e => ?_⟩
        · rw [List.take_add_one, hc] at m
          have key : DT cs M B t H3 c' ∧ ∃ j, M c' = some j ∧ j.d < di := by
            rcases List.mem_append.mp m with m | m
            · exact ⟨(hk2 c' m).meas hs m3, kids_mem hkids c' (List.mem_of_mem_take m)⟩
            · rw [List.mem_singleton.mp m]
              exact ⟨m3.tree, ic, hic, hicd⟩
          obtain ⟨key, jc, hjc, hlt⟩ := key
          exact (key.same hs s4).put hs hb hjc hlt
        · rw [hk4 p (by omega) e]
          have htk : ws.take (j + 1) = ws.take j ++ [ic.wf] := by rw [List.take_add_one, hwc]; rfl
          rw [htk, ends_alt]
    · rintro σ H5 ⟨⟨v2, rfl⟩, x5, hk5, r5, ra5, ns5, e5, l5, rep5⟩
      rw [List.length_map] at hk5 rep5
      rw [hkl, List.take_length] at rep5
      rw [List.take_length] at hk5
      refine hQ H5 (x5.meas hb ⟨r5, ra5, ns5, e5, l5, ?_, trivial⟩ hk5)
      rw [hst]
      exact rep5
  | one ar l neg => cases ht
  | stand z => cases ht
  | row al bs => cases ht
  | rep c m n => cases ht
  | cap k c => cases ht
end
end Pat
end

section
namespace Pat
open PySem PySem.Spec PyProof.Rows L2
open PatWords (Name)
open Ways (WF FwdW FitsW FitAll oneWF seqsWF altsWF repWF capWF Reach)
open LRv (pe_listRev)
/-! ### how far a repetition comes -/
theorem reach_down {w : Nat → PatWords.Ends} {m : Nat} {most : Option Nat} {k' i e : Nat} (h : Reach w m most k' i e) : ∀ k, m ≤ k → k + 1 = k' → Reach w m most k i e := by
  induction h with
  | stop c => exact fun k hk _ => .stop hk
  | @step k' i e z c hz hne _ ih =>
    intro k hk hkk
    refine .step ?_ hz (fun x => hne ⟨x.1, by omega⟩) (ih (k + 1) (by omega) (by omega))
    unfold Ways.more at c ⊢
    cases most with
    | none => rfl
    | some x =>
      have : k' < x := of_decide_eq_true c
      exact decide_eq_true (by omega)
theorem reach_before {w : WF} {t : List Nat} {m : Nat} {most : Option Nat} {k i e : Nat} (hmore : Ways.more most k = true) : Reach (w t) m most k i e ↔ Comp (EndsOf w t) (Reach (w t) m most (k + 1)) i e ∨ (m ≤ k ∧ e = i) := by
  constructor
  · intro h
    cases h with
    | stop c => exact .inr ⟨c, rfl⟩
    | @step _ _ _ z c hz hne h => exact .inl ⟨z.1, Ways.mem_ends.mpr ⟨z, hz, rfl⟩, h⟩
  · rintro (⟨j, hj, h⟩ | ⟨h, rfl⟩)
    · obtain ⟨z, hz, rfl⟩ := Ways.mem_ends.mp hj
      by_cases c : z.1 = i ∧ m ≤ k
      · rw [c.1] at h
        exact reach_down h k c.2 rfl
      · exact .step hmore hz c h
    · exact .stop h
theorem reach_any {w : WF} {t : List Nat} {m i e : Nat} : Reach (w t) m none m i e ↔ Star (EndsOf w t) i e := by
  constructor
  · intro h
    have key : ∀ {k i e : Nat}, Reach (w t) m none k i e → Star (EndsOf w t) i e := by
      intro k i e h
      induction h with
      | stop _ => exact .refl _
      | step _ hz _ _ ih => exact .step (Ways.mem_ends.mpr ⟨_, hz, rfl⟩) ih
    exact key h
  · intro h
    induction h with
    | refl => exact .stop (Nat.le_refl _)
    | @step i j e hj _ ih =>
      obtain ⟨z, hz, rfl⟩ := Ways.mem_ends.mp hj
      by_cases c : z.1 = i
      · rw [← c]
        exact ih
      · refine .step rfl hz (fun x => c x.1) (Ways.reach_kk ih (m + 1) ?_)
        unfold Ways.kk
        simp
theorem reach_most {w : WF} {t : List Nat} {m x i e : Nat} (hx : m ≤ x) : Reach (w t) m (some x) x i e ↔ i = e := by
  constructor
  · intro h
    cases h with
    | stop _ => rfl
    | step c _ _ _ =>
      have : x < x := of_decide_eq_true c
      omega
  · rintro rfl
    exact .stop hx
section
variable {P : Program} {w : World} {K : PySem.W.Frag} {mg : Str → Option Value} {base : Heap} {cs : Cs} {CT : Addr} {H : Hp} {Q : VK} {E : XK}
/-! ### one_time_before -/
theorem pF_body {rg ra b : Addr} {m : Nat} {n : Option Nat} : (nF rg ra (.rep b m n)).lookup ("body" : Str) = some (.ref b) := lk_here
theorem pF_least {rg ra b : Addr} {m : Nat} {n : Option Nat} : (nF rg ra (.rep b m n)).lookup ("least" : Str) = some (.int (m : Nat)) := (lk_past (by decide +kernel)).trans lk_here
theorem pF_most {rg ra b : Addr} {m : Nat} {n : Option Nat} : (nF rg ra (.rep b m n)).lookup ("most" : Str) = some (optN n) := (lk_past (by decide +kernel)).trans ((lk_past (by decide +kernel)).trans lk_here)
theorem pF_after {rg ra b : Addr} {m : Nat} {n : Option Nat} : (nF rg ra (.rep b m n)).lookup ("reach_after" : Str) = some (.ref ra) := (lk_past (by decide +kernel)).trans ((lk_past (by decide +kernel)).trans ((lk_past (by decide +kernel)).trans ((lk_past (by decide +kernel)).trans lk_here)))
theorem pF_putA {rg ra x b : Addr} {m : Nat} {n : Option Nat} : putF "reach_after" (.ref x) (nF rg ra (.rep b m n)) = nF rg x (.rep b m n) :=
  (put_past (by decide +kernel)).trans (congrArg _ ((put_past (by decide +kernel)).trans (congrArg _ ((put_past (by decide +kernel)).trans (congrArg _ ((put_past (by decide +kernel)).trans (congrArg _ put_here)))))))
/-- a body that has been measured: where its reach stands -/
def BodyAt (cs : Cs) (H : Hp) (c : Addr) (n : Nat) (ρ : Nat → Nat → Prop) : Prop := ∃ (τ : Tag) (dx rg ra : Addr) (kd : Kd) (ns : List Nat), tagOf kd = τ ∧ H c = some (.ins (cs.tag τ) dx (nF rg ra kd)) ∧ H rg = some (.lst (iv ns)) ∧ Rep n ns ρ
theorem BodyAt.same {c : Addr} {n : Nat} {ρ : Nat → Nat → Prop} {H' : Hp} (h : BodyAt cs H c n ρ) (s : Same H H') : BodyAt cs H' c n ρ := by
  obtain ⟨τ, dx, rg, ra, kd, ns, h0, h1, h2, h3⟩ := h
  exact ⟨τ, dx, rg, ra, kd, ns, h0, s _ _ h1, s _ _ h2, h3⟩
@[irreducible] def spOtb (K : PySem.W.Frag) (cs : Cs) : Sp := fun vs H Q _ => ∃ (b dx rg ra c : Addr) (m : Nat) (mo : Option Nat) (k : Nat) (r : Addr) (n : Nat) (ks : List Nat) (ρ σ : Nat → Nat → Prop), vs = [.ref b, .int (k : Nat), .ref r] ∧ H b = some (.ins cs.p dx (nF rg ra (.rep c m mo))) ∧ BodyAt cs H c n ρ ∧ Onw n ρ ∧ H r = some (.lst (iv ks)) ∧ Rep n ks σ ∧ n ≤ 200 ∧
  ∀ H' q ks', Same H H' → H q = none → H' q = some (.lst (iv ks')) → Rep n ks' (fun i e => Comp ρ σ i e ∨ (m ≤ k ∧ e = i)) → Q (.ref q) H'
theorem otb_use {b dx rg ra c : Addr} {m : Nat} {mo : Option Nat} {k : Nat} {r : Addr} {n : Nat} {ks : List Nat} {ρ σ : Nat → Nat → Prop} (hb : H b = some (.ins cs.p dx (nF rg ra (.rep c m mo)))) (hc : BodyAt cs H c n ρ) (ho : Onw n ρ) (hr : H r = some (.lst (iv ks))) (hk : Rep n ks σ) (hn : n ≤ 200)
    (q : ∀ H' q ks', Same H H' → H q = none → H' q = some (.lst (iv ks')) → Rep n ks' (fun i e => Comp ρ σ i e ∨ (m ≤ k ∧ e = i)) → Q (.ref q) H') : spOtb K cs [.ref b, .int (k : Nat), .ref r] H Q E := by
  unfold spOtb
  exact ⟨b, dx, rg, ra, c, m, mo, k, r, n, ks, ρ, σ, rfl, hb, hc, ho, hr, hk, hn, q⟩
abbrev nmOtb : List Str := ["self", "times", "reach", "further", "place", "places"]
theorem scOtb : FnScope nmOtb ["self", "times", "reach"] (defScope (sPN 2)) := ⟨rfl, rfl, rfl, by decide +kernel, rfl, by decide +kernel, by decide +kernel⟩
theorem ok_otb {f : Addr} {fd : FuncData} (F : Fun K "one_time_before" "Repetition.one_time_before" (sPN 2) f fd) (T : TxN K cs) (henum : mg "enumerate" = none) (G1 : GOk P w K mg base CX0 3 "one_behind_other" ["reach", "next_reach"] (spObo K)) (G2 : GOk P w K mg base CX0 2 "only" ["place"] spOnly) : FnOk P w K mg base CX0 4 f fd ["self", "times", "reach"] (spOtb K cs) := by
  obtain ⟨f1, fd1, gg1, k1, b1, G1⟩ := G1
  obtain ⟨f2, fd2, gg2, k2, b2, G2⟩ := G2
  refine F.ok scOtb (fun vs H Q E h => ?_) (fun cdv A outer s H vs Q E hr h => ⟨_, pss_cons (ps_set (i := 3) scOtb.nd rfl (.inl rfl) (pe_call G1 hr rfl gg1 k1 b1 .nil pass0 (by exact (pa_cons (pe_fld (pe_fld (pv 0) rfl) rfl) (pa_cons (pv 2) pa_nil)))))
      (pss_cons (ps_if (pt_cmpR op_lt (pv 1) (pe_fld (pv 0) rfl) (nomark _)) (pss_one (ps_ret (pv 3))) pss_nil)
      (pss_one (ps_ret (pe_lc (own := [("place", 4), ("places", 5)]) (g := gTup K 2 (gCons (gName 4) (gCons (gName 5) gNil))) (tt := tYes) (te := tOp (rI0 fun i j => .int (Builtin.bitOr i j)) (tVar 5) (tCall spOnly [] E0 (tCons (tVar 4) tNil))) rfl scOtb.nd (pi_enum (by rfl) henum (pa_cons (pv 3) pa_nil)) (blkOk_by (N := nmOtb) (sc := defScope (sPN 2)) (by decide +kernel))
            (fun _ _ _ _ _ => pg_tup rfl (pgs_cons (pg_name (i := 4) scOtb.nd rfl (Or.inl rfl)) (pgs_cons (pg_name (i := 5) scOtb.nd rfl (Or.inl rfl)) pgs_nil))) (fun _ _ _ _ _ => pts_nil)
            (fun _ _ _ _ _ => by exact (pe_op op_or (pv 5) (pe_call G2 (hr.mono (by decide)) rfl gg2 k2 b2 .nil pass0 (by exact (pa_cons (pv 4) pa_nil))))))))), ?_⟩)
  · unfold spOtb at h
    obtain ⟨_, _, _, _, _, _, _, _, _, _, _, _, _, rfl, _⟩ := h
    rfl
  unfold spOtb at h
  obtain ⟨b, dx, rg, ra, c, m, mo, k, r, n, ks, ρ, σ, rfl, hb, hc, ho, hrr, hks, hn, hQ⟩ := h
  obtain ⟨τ, dxc, rgc, rac, kdc, nsc, hτ, hnc, lc, repc⟩ := id hc
  refine ⟨_, rfl, b, cs.p, dx, _, _, rfl, hb, T.clp, T.p1, pF_body, c, cs.tag τ, dxc, _, _, rfl, hnc, T.cl _, T.re _, nF_reach _ _ _, _, rfl, ?_⟩
  refine obo_use (SqL.of lc) (SqL.of hrr) hn repc hks ho fun H1 q1 ks1 s1 hq1 eq1 rep1 => ?_
  refine ⟨_, rfl, _, rfl, b, cs.p, dx, _, _, rfl, s1 _ _ hb, T.clp, T.p2, pF_least, _, _, rfl, rfl, _, rfl, ?_⟩
  by_cases ck : k < m
  · refine if_true_of (decide_eq_true (by omega)) ⟨_, rfl, hQ H1 q1 ks1 s1 hq1 eq1 (rep1.congr fun p hp e => ?_)⟩
    constructor
    · exact .inl
    · rintro (h | ⟨h, _⟩)
      · exact h
      · omega
  · refine if_false_of (decide_eq_false (by omega)) ⟨_, rfl, q1, _, rfl, SqL.of eq1, fun D hD => ?_⟩
    refine lc_it walk_enum (fun i H' => Same H1 H' ∧ ∃ ks' : List Nat, H' D = some (.lst (iv ks')) ∧ ks'.length = i ∧ ∀ p, p < i → ∀ e, (ks'.getD p 0).testBit e = true ↔ (Comp ρ σ p e ∨ e = p)) ?_ (fun i H' _ h => SqL.of (h.1 _ _ eq1)) ?_ ?_
    · exact ⟨Same.upd hD, [], upd_same, rfl, fun p hp => by omega⟩
    · rintro i x H4 H5 hi ⟨s4, ks4, e4, hkl4, hk4⟩ ⟨Tp, x0, y0, rfl, hT, rfl, hx0, hy0⟩
      rw [List.length_map, rep1.1] at hi
      have hin : i ≤ n := by omega
      cases hx0
      have hy0 : (iv ks1)[i]? = some y0 := hy0
      rw [iv_at (rep1.get hin)] at hy0
      cases hy0
      have hDT : D ≠ Tp := ne_of_none e4 hT
      refine ⟨Tp, _, rfl, SqT.of upd_same, rfl, _, _, rfl, _, _, rfl, rfl, rfl, ?_⟩
      unfold tYes
      dsimp only
      rw [if_pos rfl]
      refine ⟨_, rfl, _, rfl, ?_⟩
      refine only_use (by omega) ⟨_, _, rfl, rfl, ?_⟩
      dsimp only
      rw [Bits.int_or]
      refine ⟨_, (upd_ne hDT).trans e4, by rw [List.length_map, hkl4]; exact small1000 (by omega), Same.upd' (Same.upd' s4 (none_same s4 hT)) hD, ks4 ++ [ks1.getD i 0 ||| 2 ^ i], by rw [upd_same, iv_snoc], by rw [List.length_append, hkl4]; rfl, fun p hp e => ?_⟩
      by_cases cp : p < i
      · have : (ks4 ++ [ks1.getD i 0 ||| 2 ^ i]).getD p 0 = ks4.getD p 0 := by
          rw [List.getD_eq_getElem?_getD, List.getElem?_append_left (by omega), ← List.getD_eq_getElem?_getD]
        rw [this]
        exact hk4 p cp e
      · have ep : p = i := by omega
        subst ep
        have : (ks4 ++ [ks1.getD p 0 ||| 2 ^ p]).getD p 0 = ks1.getD p 0 ||| 2 ^ p := by
          rw [List.getD_eq_getElem?_getD, List.getElem?_append_right (by omega), hkl4, Nat.sub_self]
          rfl
        rw [this, Nat.testBit_or, Bool.or_eq_true, rep1.2 p hin e, Nat.testBit_two_pow, decide_eq_true_iff]
        exact ⟨fun h => h.imp id Eq.symm, fun h => h.imp id Eq.symm⟩
    · rintro H4 ⟨s4, ks4, e4, hkl4, hk4⟩
      rw [List.length_map, rep1.1] at hkl4 hk4
      refine hQ H4 D ks4 (Same.trans s1 s4) (none_same s1 hD) e4 ⟨hkl4, fun p hp e => ?_⟩
      rw [hk4 p (by omega) e]
      exact ⟨fun h => h.imp id fun y => ⟨by omega, y⟩, fun h => h.imp id fun y => y.2⟩
end
end Pat
end

section
namespace Pat
open PySem PySem.Spec PyProof.Rows L2
open PatWords (Name)
open Ways (WF FwdW FitsW FitAll oneWF seqsWF altsWF repWF capWF Reach)
open LRv (pe_listRev)
section
variable {P : Program} {w : World} {K : PySem.W.Frag} {mg : Str → Option Value} {base : Heap} {cs : Cs} {CT : Addr} {H : Hp} {Q : VK} {E : XK}
/-! ### Repetition.measure -/
theorem scPM : FnScope ["self", "text", "times", "reach", "reaches"] ["self", "text"] (defScope (sPN 1)) := ⟨rfl, rfl, rfl, by decide +kernel, rfl, by decide +kernel, by decide +kernel⟩
theorem ok_pm {f : Addr} {fd : FuncData} (F : Fun K "measure" "Repetition.measure" (sPN 1) f fd) (T : TxN K cs) (TT : TxT K CT) (hrev : mg "reversed" = none) (hlist : mg "list" = none) (M1 : MOk P w K mg base CX0 CT 2 "end_place" ["self"] (spEnd CT)) (G2 : GOk P w K mg base CX0 3 "staying" ["count"] spStay)
    (G3 : GOk P w K mg base CX0 4 "any_times_onward" ["reach"] (spAny K)) (M4 : MOk P w K mg base CX0 cs.p 4 "one_time_before" ["self", "times", "reach"] (spOtb K cs))
    (d L : Nat) (hL : 6 ≤ L) (MM : ∀ τ, MOk P w K mg base CX0 (cs.tag τ) L "measure" ["self", "text"] (spMs K cs CT d τ)) : FnOk P w K mg base CX0 (L + 1) f fd ["self", "text"] (spMs K cs CT (d + 1) .p) := by
  obtain ⟨f1, fd1, m1, b1, G1⟩ := M1
  obtain ⟨f2, fd2, gg2, k2, b2, G2⟩ := G2
  obtain ⟨f3, fd3, gg3, k3, b3, G3⟩ := G3
  obtain ⟨f4, fd4, m4, b4, G4⟩ := M4
  refine F.ok scPM (fun vs H Q E h => ms_len h) (fun cdv A outer s H vs Q E hr h => ⟨_, pss_cons (ps_expr (pe_poly MM T hr (pe_fld (pv 0) rfl) (by exact (pa_cons (pv 1) pa_nil))))
      (pss_cons (ps_if (pt_cmpR op_isN (pe_fld (pv 0) rfl) pe_non (nomark _))
          (pss_cons (ps_set (i := 2) scPM.nd rfl (.inl rfl) (pe_fld (pv 0) rfl)) (pss_one (ps_set (i := 3) scPM.nd rfl (.inl rfl) (pe_call G3 (hr.mono (by omega)) rfl gg3 k3 b3 .nil pass0 (by exact (pa_cons (pe_fld (pe_fld (pv 0) rfl) rfl) pa_nil))))))
          (pss_cons (ps_set (i := 2) scPM.nd rfl (.inl rfl) (pe_fld (pv 0) rfl)) (pss_one (ps_set (i := 3) scPM.nd rfl (.inl rfl) (pe_call G2 (hr.mono (by omega)) rfl gg2 k2 b2 .nil pass0 (by exact (pa_cons (pe_op op_add (pe_meth0 (pv 1) TT.cl m1 G1 (hr.mono (by omega)) b1 .nil pass0) pe_int) pa_nil)))))))
      (pss_cons (ps_set (i := 4) scPM.nd rfl (.inl rfl) (pe_lst (pa_cons (pv 3) pa_nil)))
      (pss_cons (ps_while PassesOwn.never (pt_cmpR op_gt (pv 2) pe_int (nomark _))
        (pss_cons (ps_aug (i := 2) scPM.nd rfl (.inl rfl) pe_int in_sub)
        (pss_cons (ps_set (i := 3) scPM.nd rfl (.inl rfl) (pe_meth (pv 0) T.clp m4 G4 (hr.mono (by omega)) b4 .nil pass0 (by exact (pa_cons (pv 2) (pa_cons (pv 3) pa_nil)))))
        (pss_one (ps_expr (pe_bm PySem.F.plainAttrs_list PySem.F.slot_list_append PySem.F.type_list_append mt_append (pv 4) (pa_cons (pv 3) pa_nil)))))))
      (pss_cons (ps_fld (pv 0) (pe_listRev rfl rfl hlist rfl hrev (pv 4)) rfl)
      (pss_one (ps_fld (pv 0) (pe_ix ix_list (pe_fld (pv 0) rfl) pe_int (fun _ _ => rfl)) rfl)))))), ?_⟩)
  unfold spMs at h
  obtain ⟨b, tx, dxt, asc, afb, t, fb, i, M, B, G, nm, rfl, hb, ht, hd, hs, hw, htx, hB, hQ⟩ := h
  obtain ⟨dx, kd, di, wf⟩ := i
  cases kd with
  | rep c m mo =>
    obtain ⟨rg, ra, hn⟩ := hw.node b _ hb
    obtain ⟨hm20, hmo, j, hj, hjd, hst⟩ : m ≤ 20 ∧ (∀ k, mo = some k → m ≤ k ∧ k ≤ 20) ∧ ∃ j, M c = some j ∧ j.d < di ∧ wf = repWF j.wf m mo := hs.stat b _ hb
    obtain ⟨rgc, rac, hnc⟩ := hw.node c j hj
    have htl := htx.tt.len
    refine ⟨tagOf j.kd, _, rfl, b, cs.p, dx, _, _, rfl, hn, T.clp, T.p1, pF_body, c, j.dx, _, rfl, by rw [← at_tag]; exact hnc, nF_no (by decide +kernel) _ _ _, _, rfl, ?_⟩
    refine ms_use (B := B) hj rfl (by have hd' : di < d + 1 := hd; omega) hs hw htx hB fun H2 m3 => ?_
    have x3 : Mid cs M B G t di b H H2 := (Mid.refl hw).kid m3 (Nat.le_of_lt hjd)
    have e3 : H2 b = some (.ins cs.p dx (nF rg ra (.rep c m mo))) := m3.k _ _ hn (fun j' hj' => by rw [hb] at hj'; cases hj'; exact hjd)
    have htx3 := htx.keep x3.k
    obtain ⟨ic', hic', rgc3, rac3, nsc, hnc3, lc, repc, _⟩ := m3.new
    rw [hj] at hic'
    cases hic'
    have hbody : BodyAt cs H2 c t.length (EndsOf j.wf t) := ⟨tagOf j.kd, j.dx, rgc3, rac3, j.kd, nsc, rfl, by rw [← at_tag]; exact hnc3, lc.1, repc⟩
    have honw : Onw t.length (EndsOf j.wf t) := ends_onw (hs.fwd c j hj) t
    refine ⟨_, rfl, b, cs.p, dx, _, _, rfl, e3, T.clp, T.p3, pF_most, rfl, _, rfl, ?_⟩
    obtain ⟨N, hN⟩ : ∃ N, N = mo.getD m := ⟨_, rfl⟩
    have hN20 : N ≤ 20 := by
      rw [hN]
      cases mo with
      | none => exact hm20
      | some k => exact (hmo k rfl).2
    have hmore : ∀ k, k < N → Ways.more mo k = true := fun k hk => by
      unfold Ways.more
      cases mo with
      | none => rfl
      | some x =>
        have : N = x := hN
        exact decide_eq_true (by omega)
    by_cases hmn : mo = none
    · have hN' : N = m := by rw [hN, hmn]; rfl
      refine if_true_of (decide_eq_true (by rw [hmn]; rfl)) ⟨_, rfl, b, cs.p, dx, _, _, rfl, e3, T.clp, T.p2, pF_least, ?_⟩
      refine ⟨_, rfl, b, cs.p, dx, _, _, rfl, e3, T.clp, T.p1, pF_body, c, cs.at j.kd, j.dx, _, _, rfl, hnc3, by rw [at_tag]; exact T.cl _, by rw [at_tag]; exact T.re _, nF_reach _ _ _, ?_⟩
      refine any_use (SqL.of lc.1) (by omega) repc honw fun H4 r ks0 s4 hr4 er4 rep4' => ?_
      have rep4 : Rep t.length ks0 (Reach (j.wf t) m mo N) := rep4'.congr fun p hp e => by rw [hN', hmn]; exact reach_any.symm
      clear rep4'
      rw [show V.int ((m : Nat) : Int) = V.int ((N : Nat) : Int) by rw [hN']]
      refine ⟨_, rfl, by show 1 ≤ sizeLine; decide, fun ar har => ?_⟩
      have hna : H2 ar = none := none_same s4 har
      have hra : r ≠ ar := ne_of_none er4 har
      have notB : ∀ {q : Addr}, H2 q = none → ¬ B q := fun e y => x3.dom (hB _ y) e
      refine ⟨fun μ σ H' => ∃ (τ : Nat) (r : Addr) (rs : List Addr), μ = τ ∧ τ ≤ N ∧ σ = [some (.ref b), some (.ref tx), some (.int (τ : Nat)), some (.ref r), some (.ref ar)] ∧ Same H2 H' ∧ H' ar = some (.lst (rs.map V.ref)) ∧ rs.length = N - τ + 1 ∧ rs[N - τ]? = some r ∧ ∀ k r', rs[k]? = some r' → r' ≠ ar ∧ H2 r' = none ∧ ∃ ks, H' r' = some (.lst (iv ks)) ∧ Rep t.length ks (Reach (j.wf t) m mo (N - k)),
        ⟨N, N, r, [r], rfl, Nat.le_refl _, rfl, Same.trans s4 (Same.upd har), upd_same, by simp, by simp, fun k r' e => ?_⟩, ?_⟩
      · cases k with
        | zero =>
          cases e
          exact ⟨hra, hr4, ks0, (upd_ne hra).trans er4, rep4⟩
        | succ k => cases e
      rintro μ σ H5 ⟨τ, r5, rs, rfl, hτ, rfl, s5, e5, hrl, hrlast, hrs⟩
      refine ⟨_, rfl, _, _, rfl, rfl, _, rfl, ?_⟩
      by_cases c0 : 0 < μ
      · refine if_true_of (decide_eq_true (by omega)) ⟨fun σ' H' => ∃ (τ : Nat) (r : Addr) (rs : List Addr), τ < μ ∧ τ ≤ N ∧ σ' = [some (.ref b), some (.ref tx), some (.int (τ : Nat)), some (.ref r), some (.ref ar)] ∧ Same H2 H' ∧ H' ar = some (.lst (rs.map V.ref)) ∧ rs.length = N - τ + 1 ∧ rs[N - τ]? = some r ∧ ∀ k r', rs[k]? = some r' → r' ≠ ar ∧ H2 r' = none ∧ ∃ ks, H' r' = some (.lst (iv ks)) ∧ Rep t.length ks (Reach (j.wf t) m mo (N - k)), ?_, ?_⟩
        · rintro σ' H' ⟨τ, r, rs, hlt, h⟩
          exact ⟨τ, hlt, τ, r, rs, rfl, h⟩
        obtain ⟨κ, rfl⟩ : ∃ κ, μ = κ + 1 := ⟨μ - 1, by omega⟩
        have eκ : (((κ + 1 : Nat) : Int) - 1) = ((κ : Nat) : Int) := by omega
        refine ⟨_, rfl, _, _, rfl, rfl, ?_⟩
        rw [eκ]
        obtain ⟨h5a, h5n, ks5, h5l, h5r⟩ := hrs _ r5 hrlast
        have e3' := s5 _ _ e3
        refine ⟨_, rfl, b, dx, _, rfl, e3', nF_no (by decide +kernel) _ _ _, _, rfl, _, rfl, ?_⟩
        refine otb_use (k := κ) e3' (hbody.same s5) honw h5l h5r (by omega) fun H6 r6 ks6 s6 hr6 er6 rep6 => ?_
        have e6 := s6 _ _ e5
        have h6a : r6 ≠ ar := fun e => by rw [e, e5] at hr6; cases hr6
        refine ⟨_, rfl, .inl ⟨rfl, _, SqL.of e6⟩, _, rfl, ar, _, _, rfl, rfl, e6, by rw [List.length_map, hrl]; exact small1000 (by omega), ?_⟩
        refine ⟨κ, r6, rs ++ [r6], Nat.lt_succ_self _, by omega, rfl, Same.upd' (Same.trans s5 s6) hna, by rw [List.map_append]; exact upd_same, by rw [List.length_append, hrl]; simp; omega, ?_, fun k r' e => ?_⟩
        · rw [List.getElem?_append_right (by omega), hrl]
          have : N - κ - (N - (κ + 1) + 1) = 0 := by omega
          rw [this]
          rfl
        · by_cases ck : k < rs.length
          · rw [List.getElem?_append_left ck] at e
            obtain ⟨ha, hb2, ks, hl, hr2⟩ := hrs k r' e
            exact ⟨ha, hb2, ks, (upd_ne ha).trans (s6 _ _ hl), hr2⟩
          · rw [List.getElem?_append_right (by omega)] at e
            have ek : k = N - κ := by
              have := (List.getElem?_eq_some_iff.mp e).1
              simp at this
              omega
            have ez : k - rs.length = 0 := by omega
            rw [ez] at e
            cases e
            refine ⟨h6a, none_same s5 hr6, ks6, (upd_ne h6a).trans er6, ?_⟩
            have e1 : N - (N - (κ + 1)) = κ + 1 := by omega
            have e2 : N - k = κ := by omega
            rw [e2]
            refine rep6.congr fun p hp e => ?_
            rw [e1]
            exact (reach_before (hmore κ (by omega))).symm
      · have hμ : μ = 0 := by omega
        subst hμ
        refine if_false_of (decide_eq_false (by omega)) ?_
        rw [Nat.sub_zero] at hrl
        refine ⟨_, rfl, ar, _, rfl, SqL.of e5, fun q hq => ?_⟩
        have x6 : Mid cs M B G t di b H (upd H5 q (.lst (rs.map V.ref).reverse)) := (x3.same s5).same (Same.upd hq)
        have e3' : upd H5 q (.lst (rs.map V.ref).reverse) b = some (.ins cs.p dx (nF rg ra (.rep c m mo))) := (Same.upd hq) _ _ (s5 _ _ e3)
        refine ⟨_, rfl, b, cs.p, dx, _, rfl, e3', T.clp, T.p5, nF_len _ _ _, ?_⟩
        rw [pF_putA]
        have x7 := x6.put hs hb (rg := rg) (ra := q)
        have hqb : q ≠ b := fun e => by rw [e, s5 _ _ e3] at hq; cases hq
        have eq7 : upd (upd H5 q (.lst (rs.map V.ref).reverse)) b (.ins cs.p dx (nF rg q (.rep c m mo))) q = some (.lst (rs.reverse.map V.ref)) := (upd_ne hqb).trans (by rw [List.map_reverse]; exact upd_same)
        have hrr : ∀ k r, rs.reverse[k]? = some r → H2 r = none ∧ ∃ ks, H5 r = some (.lst (iv ks)) ∧ Rep t.length ks (Reach (j.wf t) m mo k) := fun k r e => by
          have hkl2 := (List.getElem?_eq_some_iff.mp e).1
          rw [List.length_reverse] at hkl2
          rw [List.getElem?_reverse hkl2] at e
          obtain ⟨_, h2, ks, l, rep⟩ := hrs _ r e
          have e8 : N - (rs.length - 1 - k) = k := by omega
          rw [e8] at rep
          exact ⟨h2, ks, l, rep⟩
        obtain ⟨r0, hr0⟩ : ∃ r0, rs.reverse[0]? = some r0 := ⟨_, List.getElem?_eq_getElem (by rw [List.length_reverse]; omega)⟩
        refine ⟨_, rfl, b, cs.p, dx, _, _, rfl, upd_same, T.clp, T.p5, pF_after, q, _, _, _, rfl, rfl, SqL.of eq7, atI_nat (j := 0) (by rw [List.getElem?_map, hr0]; rfl), ?_⟩
        refine ⟨_, rfl, b, cs.p, dx, _, rfl, upd_same, T.clp, T.p4, nF_len _ _ _, ?_⟩
        rw [nF_put]
        have x8 := x7.put hs hb (rg := r0) (ra := q)
        have lkeep : ∀ {r : Addr} {ks : List Nat}, H2 r = none → H5 r = some (.lst (iv ks)) → LsAt M B (upd (upd (upd H5 q (.lst (rs.map V.ref).reverse)) b (.ins cs.p dx (nF rg q (.rep c m mo)))) b (.ins cs.p dx (nF r0 q (.rep c m mo)))) r ks := fun {r ks} hn2 l => by
          have hrb : r ≠ b := fun e => by rw [e, s5 _ _ e3] at l; cases l
          exact ⟨(upd_ne hrb).trans ((upd_ne hrb).trans ((Same.upd hq) _ _ l)), x3.w.fresh hn2, notB hn2⟩
        obtain ⟨hn0, ks00, l0, rep0⟩ := hrr 0 r0 hr0
        have hq2 : H2 q = none := none_same s5 hq
        refine hQ _ (x8.meas hb ⟨r0, q, ks00, upd_same, lkeep hn0 l0, rep0.congr fun p hp e => ?_, rs.reverse, (upd_ne hqb).trans eq7, x3.w.fresh hq2, notB hq2, by rw [List.length_reverse, hrl, hN], j, hj, fun k r e => ?_⟩ fun c' mc => ?_)
        · show _ ↔ EndsOf wf t p e
          rw [hst]
          constructor
          · exact fun h => Ways.repW_complete (hs.fwd c j hj t) h _ hp (by omega)
          · exact fun h => Ways.repW_sound _ _ _ _ h
        · obtain ⟨hn2, ks, l, rep⟩ := hrr k r e
          exact ⟨ks, lkeep hn2 l, rep⟩
        · rw [List.mem_singleton.mp mc]
          have h5 := (m3.tree.same hs s5).same hs (Same.upd (o := HO.lst (rs.map V.ref).reverse) hq)
          exact (h5.put hs hb hj hjd).put hs hb hj hjd
    · obtain ⟨x, hx⟩ : ∃ x, mo = some x := Option.ne_none_iff_exists'.mp hmn
      have hN' : N = x := by rw [hN, hx]; rfl
      refine if_false_of (decide_eq_false fun e => by rw [hx] at e; cases e) ⟨_, rfl, b, cs.p, dx, _, _, rfl, e3, T.clp, T.p3, pF_most, ?_⟩
      refine ⟨_, rfl, tx, dxt, _, rfl, htx3.tt.at_, tF_no (by decide +kernel), ?_⟩
      refine end_use htx3.tt ⟨_, _, rfl, rfl, ?_⟩
      refine stay_useI (n := t.length + 1) (by omega) (by omega) fun H4 r s4 hr4 er4 => ?_
      obtain ⟨ks0, hks0⟩ : ∃ ks0, ks0 = stayL (t.length + 1) := ⟨_, rfl⟩
      have rep4 : Rep t.length ks0 (Reach (j.wf t) m mo N) := by
        rw [hks0]
        exact (stay_rep t.length).congr fun p hp e => by rw [hN', hx]; exact (reach_most (hmo x hx).1).symm
      rw [← hks0] at er4
      clear hks0
      rw [show optN mo = V.int ((N : Nat) : Int) by rw [hN', hx]; rfl]
      refine ⟨_, rfl, by show 1 ≤ sizeLine; decide, fun ar har => ?_⟩
      have hna : H2 ar = none := none_same s4 har
      have hra : r ≠ ar := ne_of_none er4 har
      have notB : ∀ {q : Addr}, H2 q = none → ¬ B q := fun e y => x3.dom (hB _ y) e
      refine ⟨fun μ σ H' => ∃ (τ : Nat) (r : Addr) (rs : List Addr), μ = τ ∧ τ ≤ N ∧ σ = [some (.ref b), some (.ref tx), some (.int (τ : Nat)), some (.ref r), some (.ref ar)] ∧ Same H2 H' ∧ H' ar = some (.lst (rs.map V.ref)) ∧ rs.length = N - τ + 1 ∧ rs[N - τ]? = some r ∧ ∀ k r', rs[k]? = some r' → r' ≠ ar ∧ H2 r' = none ∧ ∃ ks, H' r' = some (.lst (iv ks)) ∧ Rep t.length ks (Reach (j.wf t) m mo (N - k)),
        ⟨N, N, r, [r], rfl, Nat.le_refl _, rfl, Same.trans s4 (Same.upd har), upd_same, by simp, by simp, fun k r' e => ?_⟩, ?_⟩
      · cases k with
        | zero =>
          cases e
          exact ⟨hra, hr4, ks0, (upd_ne hra).trans er4, rep4⟩
        | succ k => cases e
      rintro μ σ H5 ⟨τ, r5, rs, rfl, hτ, rfl, s5, e5, hrl, hrlast, hrs⟩
      refine ⟨_, rfl, _, _, rfl, rfl, _, rfl, ?_⟩
      by_cases c0 : 0 < μ
      · refine if_true_of (decide_eq_true (by omega)) ⟨fun σ' H' => ∃ (τ : Nat) (r : Addr) (rs : List Addr), τ < μ ∧ τ ≤ N ∧ σ' = [some (.ref b), some (.ref tx), some (.int (τ : Nat)), some (.ref r), some (.ref ar)] ∧ Same H2 H' ∧ H' ar = some (.lst (rs.map V.ref)) ∧ rs.length = N - τ + 1 ∧ rs[N - τ]? = some r ∧ ∀ k r', rs[k]? = some r' → r' ≠ ar ∧ H2 r' = none ∧ ∃ ks, H' r' = some (.lst (iv ks)) ∧ Rep t.length ks (Reach (j.wf t) m mo (N - k)), ?_, ?_⟩
        · rintro σ' H' ⟨τ, r, rs, hlt, h⟩
          exact ⟨τ, hlt, τ, r, rs, rfl, h⟩
        obtain ⟨κ, rfl⟩ : ∃ κ, μ = κ + 1 := ⟨μ - 1, by omega⟩
        have eκ : (((κ + 1 : Nat) : Int) - 1) = ((κ : Nat) : Int) := by omega
        refine ⟨_, rfl, _, _, rfl, rfl, ?_⟩
        rw [eκ]
        obtain ⟨h5a, h5n, ks5, h5l, h5r⟩ := hrs _ r5 hrlast
        have e3' := s5 _ _ e3
        refine ⟨_, rfl, b, dx, _, rfl, e3', nF_no (by decide +kernel) _ _ _, _, rfl, _, rfl, ?_⟩
        refine otb_use (k := κ) e3' (hbody.same s5) honw h5l h5r (by omega) fun H6 r6 ks6 s6 hr6 er6 rep6 => ?_
        have e6 := s6 _ _ e5
        have h6a : r6 ≠ ar := fun e => by rw [e, e5] at hr6; cases hr6
        refine ⟨_, rfl, .inl ⟨rfl, _, SqL.of e6⟩, _, rfl, ar, _, _, rfl, rfl, e6, by rw [List.length_map, hrl]; exact small1000 (by omega), ?_⟩
        refine ⟨κ, r6, rs ++ [r6], Nat.lt_succ_self _, by omega, rfl, Same.upd' (Same.trans s5 s6) hna, by rw [List.map_append]; exact upd_same, by rw [List.length_append, hrl]; simp; omega, ?_, fun k r' e => ?_⟩
        · rw [List.getElem?_append_right (by omega), hrl]
          have : N - κ - (N - (κ + 1) + 1) = 0 := by omega
          rw [this]
          rfl
        · by_cases ck : k < rs.length
          · rw [List.getElem?_append_left ck] at e
            obtain ⟨ha, hb2, ks, hl, hr2⟩ := hrs k r' e
            exact ⟨ha, hb2, ks, (upd_ne ha).trans (s6 _ _ hl), hr2⟩
          · rw [List.getElem?_append_right (by omega)] at e
            have ek : k = N - κ := by
              have := (List.getElem?_eq_some_iff.mp e).1
              simp at this
              omega
            have ez : k - rs.length = 0 := by omega
            rw [ez] at e
            cases e
            refine ⟨h6a, none_same s5 hr6, ks6, (upd_ne h6a).trans er6, ?_⟩
            have e1 : N - (N - (κ + 1)) = κ + 1 := by omega
            have e2 : N - k = κ := by omega
            rw [e2]
            refine rep6.congr fun p hp e => ?_
            rw [e1]
            exact (reach_before (hmore κ (by omega))).symm
      · have hμ : μ = 0 := by omega
        subst hμ
        refine if_false_of (decide_eq_false (by omega)) ?_
        rw [Nat.sub_zero] at hrl
        refine ⟨_, rfl, ar, _, rfl, SqL.of e5, fun q hq => ?_⟩
        have x6 : Mid cs M B G t di b H (upd H5 q (.lst (rs.map V.ref).reverse)) := (x3.same s5).same (Same.upd hq)
        have e3' : upd H5 q (.lst (rs.map V.ref).reverse) b = some (.ins cs.p dx (nF rg ra (.rep c m mo))) := (Same.upd hq) _ _ (s5 _ _ e3)
        refine ⟨_, rfl, b, cs.p, dx, _, rfl, e3', T.clp, T.p5, nF_len _ _ _, ?_⟩
        rw [pF_putA]
        have x7 := x6.put hs hb (rg := rg) (ra := q)
        have hqb : q ≠ b := fun e => by rw [e, s5 _ _ e3] at hq; cases hq
        have eq7 : upd (upd H5 q (.lst (rs.map V.ref).reverse)) b (.ins cs.p dx (nF rg q (.rep c m mo))) q = some (.lst (rs.reverse.map V.ref)) := (upd_ne hqb).trans (by rw [List.map_reverse]; exact upd_same)
        have hrr : ∀ k r, rs.reverse[k]? = some r → H2 r = none ∧ ∃ ks, H5 r = some (.lst (iv ks)) ∧ Rep t.length ks (Reach (j.wf t) m mo k) := fun k r e => by
          have hkl2 := (List.getElem?_eq_some_iff.mp e).1
          rw [List.length_reverse] at hkl2
          rw [List.getElem?_reverse hkl2] at e
          obtain ⟨_, h2, ks, l, rep⟩ := hrs _ r e
          have e8 : N - (rs.length - 1 - k) = k := by omega
          rw [e8] at rep
          exact ⟨h2, ks, l, rep⟩
        obtain ⟨r0, hr0⟩ : ∃ r0, rs.reverse[0]? = some r0 := ⟨_, List.getElem?_eq_getElem (by rw [List.length_reverse]; omega)⟩
        refine ⟨_, rfl, b, cs.p, dx, _, _, rfl, upd_same, T.clp, T.p5, pF_after, q, _, _, _, rfl, rfl, SqL.of eq7, atI_nat (j := 0) (by rw [List.getElem?_map, hr0]; rfl), ?_⟩
        refine ⟨_, rfl, b, cs.p, dx, _, rfl, upd_same, T.clp, T.p4, nF_len _ _ _, ?_⟩
        rw [nF_put]
        have x8 := x7.put hs hb (rg := r0) (ra := q)
        have lkeep : ∀ {r : Addr} {ks : List Nat}, H2 r = none → H5 r = some (.lst (iv ks)) → LsAt M B (upd (upd (upd H5 q (.lst (rs.map V.ref).reverse)) b (.ins cs.p dx (nF rg q (.rep c m mo)))) b (.ins cs.p dx (nF r0 q (.rep c m mo)))) r ks := fun {r ks} hn2 l => by
          have hrb : r ≠ b := fun e => by rw [e, s5 _ _ e3] at l; cases l
          exact ⟨(upd_ne hrb).trans ((upd_ne hrb).trans ((Same.upd hq) _ _ l)), x3.w.fresh hn2, notB hn2⟩
        obtain ⟨hn0, ks00, l0, rep0⟩ := hrr 0 r0 hr0
        have hq2 : H2 q = none := none_same s5 hq
        refine hQ _ (x8.meas hb ⟨r0, q, ks00, upd_same, lkeep hn0 l0, rep0.congr fun p hp e => ?_, rs.reverse, (upd_ne hqb).trans eq7, x3.w.fresh hq2, notB hq2, by rw [List.length_reverse, hrl, hN], j, hj, fun k r e => ?_⟩ fun c' mc => ?_)
        · show _ ↔ EndsOf wf t p e
          rw [hst]
          constructor
          · exact fun h => Ways.repW_complete (hs.fwd c j hj t) h _ hp (by omega)
          · exact fun h => Ways.repW_sound _ _ _ _ h
        · obtain ⟨hn2, ks, l, rep⟩ := hrr k r e
          exact ⟨ks, lkeep hn2 l, rep⟩
        · rw [List.mem_singleton.mp mc]
          have h5 := (m3.tree.same hs s5).same hs (Same.upd (o := HO.lst (rs.map V.ref).reverse) hq)
          exact (h5.put hs hb hj hjd).put hs hb hj hjd
  | one ar l neg => cases ht
  | stand z => cases ht
  | row al bs => cases ht
  | choice al bs => cases ht
  | cap k c => cases ht
end
end Pat
end

section
namespace Pat
open PySem PySem.Spec PyProof.Rows L2
open PatWords (Name Caps)
open Ways (WF FwdW FitsW FitAll oneWF seqsWF altsWF repWF capWF Reach fst)
/-! ### parts followed -/
theorem fst_congr {T T' : Nat → Bool} : ∀ {l : PatWords.Ends}, (∀ z ∈ l, T z.1 = T' z.1) → fst T l = fst T' l
  | [], _ => rfl
  | z :: l, h => by
    have hz := h z (List.mem_cons_self ..)
    have ih := fst_congr (l := l) fun y m => h y (List.mem_cons_of_mem _ m)
    by_cases c : T z.1 = true
    · rw [Ways.fst_pos c, Ways.fst_pos (by rw [← hz]; exact c)]
    · rw [Ways.fst_neg c, Ways.fst_neg (by rw [← hz]; exact c), ih]
theorem Kids.det {M : PM} {d d' : Nat} : ∀ {bs : List Addr} {ws ws' : List WF}, Kids M d bs ws → Kids M d' bs ws' → ws = ws'
  | [], [], [], _, _ => rfl
  | [], [], _ :: _, _, h => h.elim
  | [], _ :: _, _, h, _ => h.elim
  | _ :: _, [], _, h, _ => h.elim
  | _ :: _, _ :: _, [], _, h => h.elim
  | b :: bs, w :: ws, w' :: ws', ⟨⟨i, h1, _, h2⟩, h3⟩, ⟨⟨i', h1', _, h2'⟩, h3'⟩ => by
    rw [h1] at h1'
    cases h1'
    rw [← h2, ← h2', Kids.det h3 h3']
/-- the list of what was captured, by the names -/
structure CapOk (K : PySem.W.Frag) (H : Hp) (nm : List Name) (vs : List V) (c : Caps) : Prop where
  len : vs.length = nm.length
  at_ : ∀ (k : Nat) (n : Name), nm[k]? = some n → match Caps.get c n with
    | none => vs[k]? = some V.non
    | some x => ∃ T, vs[k]? = some (V.ref T) ∧ SqT K H T [.int (x.1 : Nat), .int (x.2 : Nat)]
theorem CapOk.map {K : PySem.W.Frag} {H H' : Hp} {nm : List Name} {vs : List V} {c : Caps} (h : CapOk K H nm vs c) (k : ∀ t xs, SqT K H t xs → SqT K H' t xs) : CapOk K H' nm vs c := ⟨h.len, fun i n e => by
  have := h.at_ i n e
  cases e2 : Caps.get c n with
  | none => rw [e2] at this; exact this
  | some x =>
    rw [e2] at this
    obtain ⟨T, h1, h2⟩ := this
    exact ⟨T, h1, k _ _ h2⟩⟩
theorem CapOk.alike {K : PySem.W.Frag} {H : Hp} {nm : List Name} {vs : List V} {c c' : Caps} (h : CapOk K H nm vs c) (e : ∀ n, Caps.get c n = Caps.get c' n) : CapOk K H nm vs c' := ⟨h.len, fun i n e2 => by
  rw [← e n]
  exact h.at_ i n e2⟩
theorem sqt_keptA {K : PySem.W.Frag} {H H' : Hp} {ac t : Addr} {ws xs : List V} (h : SqT K H t xs) (e : H ac = some (.lst ws)) (k : Kept H H' ac) : SqT K H' t xs := by
  rcases h with (h | ⟨o, h⟩) | h
  · exact .inl (.inl (k _ _ h (ne_of h e (by intro z; cases z))))
  · exact .inl (.inr ⟨o, k _ _ h (ne_of h e (by intro z; cases z))⟩)
  · exact .inr h
/-- all parts as they stand, and what they are made of -/
structure Fz (K : PySem.W.Frag) (cs : Cs) (M : PM) (G : Hp) (nm : List Name) : Prop where
  aux : ∀ b i, M b = some i → Aux K G i.kd
  stat : ∀ b i, M b = some i → Stat nm M i
  fwd : ∀ b i, M b = some i → FwdW i.wf
/-- a call of follow: what is there -/
structure FoAt (K : PySem.W.Frag) (cs : Cs) (M : PM) (B : Busy) (G : Hp) (nm : List Name) (t : List Nat) (ac : Addr) (H : Hp) (vs : List V) (c : Caps) : Prop where
  fz : Fz K cs M G nm
  same : Same G H
  gac : G ac = none
  hac : H ac = some (.lst vs)
  cap : CapOk K H nm vs c
  tlen : t.length ≤ 128
  nlen : nm.length ≤ 1000
  nd : nm.Nodup
section
variable {K : PySem.W.Frag} {cs : Cs} {M : PM} {B : Busy} {G H H' : Hp} {nm : List Name} {t : List Nat} {ac : Addr} {vs vs' : List V} {c c' : Caps}
theorem FoAt.next (h : FoAt K cs M B G nm t ac H vs c) (k : Kept H H' ac) (e : H' ac = some (.lst vs')) (hc : CapOk K H' nm vs' c') : FoAt K cs M B G nm t ac H' vs' c' :=
  ⟨h.fz, Same.of_kept h.same h.gac k, h.gac, e, hc, h.tlen, h.nlen, h.nd⟩
theorem FoAt.alike (h : FoAt K cs M B G nm t ac H vs c) (e : ∀ n, Caps.get c n = Caps.get c' n) : FoAt K cs M B G nm t ac H vs c' := { h with cap := h.cap.alike e }
theorem FoAt.sameH (h : FoAt K cs M B G nm t ac H vs c) (s : Same H H') : FoAt K cs M B G nm t ac H' vs c :=
  h.next (Kept.of_same s) (s _ _ h.hac) (h.cap.map fun _ _ e => sqt_same e s)
end
@[irreducible] def spFo (K : PySem.W.Frag) (cs : Cs) (d : Nat) (τ : Tag) : Sp := fun vs H Q _ => ∃ (b ac : Addr) (p T : Nat) (i : Info) (M : PM) (B : Busy) (G : Hp) (nm : List Name) (t : List Nat) (ws : List V) (c : Caps) (z : Nat × Caps), vs = [.ref b, .int (p : Nat), .int (T : Nat), .ref ac] ∧ M b = some i ∧ tagOf i.kd = τ ∧ i.d < d ∧ FoAt K cs M B G nm t ac H ws c ∧ DT cs M B t G b ∧ p ≤ t.length ∧ fst (fun e => T.testBit e) (i.wf t p) = some z ∧
  ∀ H' ws', FoAt K cs M B G nm t ac H' ws' (z.2 ++ c) → Kept H H' ac → Q (.int (z.1 : Nat)) H'
theorem fo_use {K : PySem.W.Frag} {cs : Cs} {d : Nat} {τ : Tag} {H : Hp} {Q : VK} {E : XK} {b ac : Addr} {p T : Nat} {i : Info} {M : PM} {B : Busy} {G : Hp} {nm : List Name} {t : List Nat} {ws : List V} {c : Caps} {z : Nat × Caps} (hb : M b = some i) (hτ : tagOf i.kd = τ) (hd : i.d < d) (hf : FoAt K cs M B G nm t ac H ws c) (ht : DT cs M B t G b) (hp : p ≤ t.length) (hz : fst (fun e => T.testBit e) (i.wf t p) = some z)
    (q : ∀ H' ws', FoAt K cs M B G nm t ac H' ws' (z.2 ++ c) → Kept H H' ac → Q (.int (z.1 : Nat)) H') : spFo K cs d τ [.ref b, .int (p : Nat), .int (T : Nat), .ref ac] H Q E := by
  unfold spFo
  exact ⟨b, ac, p, T, i, M, B, G, nm, t, ws, c, z, rfl, hb, hτ, hd, hf, ht, hp, hz, q⟩
theorem fo_len {K : PySem.W.Frag} {cs : Cs} {d : Nat} {τ : Tag} {vs : List V} {H : Hp} {Q : VK} {E : XK} (h : spFo K cs d τ vs H Q E) : vs.length = 4 := by
  unfold spFo at h
  obtain ⟨_, _, _, _, _, _, _, _, _, _, _, _, _, rfl, _⟩ := h
  rfl
section
variable {P : Program} {w : World} {K : PySem.W.Frag} {mg : Str → Option Value} {base : Heap} {cs : Cs} {CT : Addr} {H : Hp} {Q : VK} {E : XK}
abbrev psFo : List Str := ["self", "place", "targets", "captures"]
theorem scOF : FnScope psFo psFo (defScope (sON 2)) := ⟨rfl, rfl, rfl, by decide +kernel, rfl, by decide +kernel, by decide +kernel⟩
theorem scSF : FnScope psFo psFo (defScope (sSN 3)) := ⟨rfl, rfl, rfl, by decide +kernel, rfl, by decide +kernel, by decide +kernel⟩
theorem ok_of {f : Addr} {fd : FuncData} (F : Fun K "follow" "OneValue.follow" (sON 2) f fd) (d : Nat) : FnOk P w K mg base CX0 2 f fd psFo (spFo K cs d .o) := by
  refine F.ok scOF (fun vs H Q E h => fo_len h) (fun cdv A outer s H vs Q E hr h => ⟨_, pss_one (ps_ret (pe_op op_add (pv 1) pe_int)), ?_⟩)
  unfold spFo at h
  obtain ⟨b, ac, p, T, i, M, B, G, nm, t, ws, c, z, rfl, hb, ht, hd, hf, hdt, hp, hz, hQ⟩ := h
  obtain ⟨dx, kd, di, wf⟩ := i
  cases kd with
  | one ar l neg =>
    have hst : wf = oneWF l neg := hf.fz.stat b _ hb
    refine ⟨_, rfl, _, _, rfl, rfl, ?_⟩
    have hm := (Ways.fst_some_of hz).1
    have hm : z ∈ wf t p := hm
    rw [hst] at hm
    have ez : z = (p + 1, []) := by
      unfold oneWF at hm
      split at hm
      · split at hm
        · exact List.mem_singleton.mp hm
        · cases hm
      · cases hm
    subst ez
    exact hQ H ws hf (Kept.refl _ _)
  | stand z => cases ht
  | row al bs => cases ht
  | choice al bs => cases ht
  | rep c m n => cases ht
  | cap k c => cases ht
theorem ok_sf {f : Addr} {fd : FuncData} (F : Fun K "follow" "Standpoint.follow" (sSN 3) f fd) (d : Nat) : FnOk P w K mg base CX0 2 f fd psFo (spFo K cs d .s) := by
  refine F.ok scSF (fun vs H Q E h => fo_len h) (fun cdv A outer s H vs Q E hr h => ⟨_, pss_one (ps_ret (pv 1)), ?_⟩)
  unfold spFo at h
  obtain ⟨b, ac, p, T, i, M, B, G, nm, t, ws, c, z, rfl, hb, ht, hd, hf, hdt, hp, hz, hQ⟩ := h
  obtain ⟨dx, kd, di, wf⟩ := i
  cases kd with
  | stand s0 =>
    have hst : (s0 = "^" ∨ s0 = "$" ∨ s0 = "b") ∧ wf = standW s0 := hf.fz.stat b _ hb
    refine ⟨_, rfl, ?_⟩
    have hm : z ∈ wf t p := (Ways.fst_some_of hz).1
    rw [hst.2] at hm
    have ez : z = (p, []) := by
      unfold standW at hm
      split at hm
      · dsimp only at hm
        split at hm
        · exact List.mem_singleton.mp hm
        · cases hm
      · split at hm
        · dsimp only at hm
          split at hm
          · exact List.mem_singleton.mp hm
          · cases hm
        · dsimp only at hm
          split at hm
          · exact List.mem_singleton.mp hm
          · cases hm
    subst ez
    exact hQ H ws hf (Kept.refl _ _)
  | one ar l neg => cases ht
  | row al bs => cases ht
  | choice al bs => cases ht
  | rep c m n => cases ht
  | cap k c => cases ht
/-! ### Capture.follow -/
theorem scKF : FnScope ["self", "place", "targets", "captures", "end"] psFo (defScope (sKN 2)) := ⟨rfl, rfl, rfl, by decide +kernel, rfl, by decide +kernel, by decide +kernel⟩
theorem kF_number {rg ra b : Addr} {k : Nat} : (nF rg ra (.cap k b)).lookup ("number" : Str) = some (.int (k : Nat)) := lk_here
/-- one more is captured -/
theorem CapOk.put {H' : Hp} {nm : List Name} {vs : List V} {c : Caps} {k : Nat} {n : Name} {T : Addr} {p e : Nat} (h : CapOk K H nm vs c) (hk : nm[k]? = some n) (hnd : nm.Nodup) (hT : SqT K H' T [.int (p : Nat), .int (e : Nat)]) (kk : ∀ t xs, SqT K H t xs → SqT K H' t xs) : CapOk K H' nm (vs.set k (.ref T)) ((n, p, e) :: c) where
  len := by rw [List.length_set]; exact h.len
  at_ := fun i m e2 => by
    have hkl : k < vs.length := by rw [h.len]; exact (List.getElem?_eq_some_iff.mp hk).1
    rw [Ways.get_cons]
    by_cases c1 : n = m
    · rw [if_pos c1]
      have ei : i = k := by
        obtain ⟨h1, h2⟩ := List.getElem?_eq_some_iff.mp hk
        obtain ⟨h3, h4⟩ := List.getElem?_eq_some_iff.mp e2
        have hp := List.pairwise_iff_getElem.mp hnd
        rcases Nat.lt_trichotomy i k with h | h | h
        · exact absurd (by rw [h4, h2, c1]) (hp i k h3 h1 h)
        · exact h
        · exact absurd (by rw [h4, h2, c1]) (hp k i h1 h3 h)
      subst ei
      exact ⟨T, by rw [List.getElem?_set_self hkl], hT⟩
    · rw [if_neg c1]
      have hne : k ≠ i := fun x => c1 (by rw [x, e2] at hk; exact (Option.some.inj hk).symm)
      have := (h.map kk).at_ i m e2
      rw [List.getElem?_set_ne hne]
      exact this
theorem ok_kf {f : Addr} {fd : FuncData} (F : Fun K "follow" "Capture.follow" (sKN 2) f fd) (T : TxN K cs) (d L : Nat) (MM : ∀ τ, MOk P w K mg base CX0 (cs.tag τ) L "follow" psFo (spFo K cs d τ)) : FnOk P w K mg base CX0 (L + 1) f fd psFo (spFo K cs (d + 1) .k) := by
  refine F.ok scKF (fun vs H Q E h => fo_len h) (fun cdv A outer s H vs Q E hr h => ⟨_, pss_cons (ps_set (i := 4) scKF.nd rfl (.inl rfl) (pe_poly MM T hr (pe_fld (pv 0) rfl) (by exact (pa_cons (pv 1) (pa_cons (pv 2) (pa_cons (pv 3) pa_nil))))))
      (pss_cons (ps_asg (pe_tup (pa_cons (pv 1) (pa_cons (pv 4) pa_nil))) (pg_sub (pv 3) (pe_fld (pv 0) rfl) set_list))
      (pss_one (ps_ret (pv 4)))), ?_⟩)
  unfold spFo at h
  obtain ⟨b, ac, p, TT, i, M, B, G, nm, t, ws, c, z, rfl, hb, ht, hd, hf, hdt, hp, hz, hQ⟩ := h
  obtain ⟨dx, kd, di, wf⟩ := i
  cases kd with
  | cap k cc =>
    obtain ⟨j, n, hj, hjd, hnk, hst⟩ : ∃ j n, M cc = some j ∧ j.d < di ∧ nm[k]? = some n ∧ wf = capWF n j.wf := hf.fz.stat b _ hb
    obtain ⟨i', hi', rg, ra, ns, hn, _⟩ := hdt.at
    rw [hb] at hi'
    cases hi'
    have hkid : DT cs M B t G cc := by
      cases hdt with
      | mk h1 _ h3 =>
        rw [hb] at h1
        cases h1
        exact h3 cc (List.mem_singleton.mpr rfl)
    obtain ⟨jc, hjc, rgc, rac, nsc, hnc, _⟩ := hkid.at
    rw [hj] at hjc
    cases hjc
    refine ⟨tagOf j.kd, _, rfl, b, cs.k, dx, _, _, rfl, hf.same _ _ hn, T.clk, T.k2, kF_body, cc, j.dx, _, rfl, by rw [← at_tag]; exact hf.same _ _ hnc, nF_no (by decide +kernel) _ _ _, _, rfl, _, rfl, _, rfl, ?_⟩
    have hz : fst (fun e => TT.testBit e) (wf t p) = some z := hz
    rw [hst] at hz
    unfold capWF at hz
    rw [Ways.fst_map (fun y => (y.1, (n, p, y.1) :: y.2)) (fun _ => rfl)] at hz
    cases ey : fst (fun e => TT.testBit e) (j.wf t p) with
    | none => rw [ey] at hz; cases hz
    | some y =>
      rw [ey] at hz
      cases hz
      refine fo_use hj rfl (by have hd' : di < d + 1 := hd; omega) hf hkid hp ey fun H1 ws1 hf1 k1 => ?_
      refine ⟨_, rfl, _, rfl, by show 2 ≤ sizeLine; decide, fun Tp hTp => ?_⟩
      have s2 := Same.upd (o := HO.tup [V.int (p : Nat), V.int (y.1 : Nat)]) hTp
      have hf2 := hf1.sameH s2
      have hkl : k < ws1.length := by rw [hf1.cap.len]; exact (List.getElem?_eq_some_iff.mp hnk).1
      refine ⟨_, rfl, _, rfl, b, cs.k, dx, _, _, rfl, hf2.same _ _ hn, T.clk, T.k1, kF_number, ac, _, _, k, rfl, rfl, hf2.hac, ixN_nat hkl, ?_⟩
      refine ⟨_, rfl, ?_⟩
      have k2 : Kept (upd H1 Tp (.tup [V.int (p : Nat), V.int (y.1 : Nat)])) (upd (upd H1 Tp (.tup [V.int (p : Nat), V.int (y.1 : Nat)])) ac (.lst (ws1.set k (.ref Tp)))) ac := Kept.upd
      refine hQ _ (ws1.set k (.ref Tp)) (hf2.next k2 upd_same ?_) ((k1.trans (Kept.of_same s2)).trans k2)
      refine CapOk.put hf2.cap hnk hf.nd ?_ fun _ _ e => sqt_keptA e hf2.hac k2
      exact sqt_keptA (SqT.of upd_same) hf2.hac k2
  | one ar l neg => cases ht
  | stand s0 => cases ht
  | row al bs => cases ht
  | choice al bs => cases ht
  | rep c m n => cases ht
end
end Pat
end

section
namespace Pat
open PySem PySem.Spec PyProof.Rows L2
open PatWords (Name Caps)
open Ways (WF FwdW FitsW FitAll oneWF seqsWF altsWF repWF capWF Reach fst)
theorem fst_some_iff {T : Nat → Bool} {l : PatWords.Ends} : (fst T l).isSome = true ↔ ∃ e, T e = true ∧ e ∈ Ways.ends l := by
  rw [Ways.fst_isSome]
  constructor
  · rintro ⟨z, h1, h2⟩
    exact ⟨z.1, h2, Ways.mem_ends.mpr ⟨z, h1, rfl⟩⟩
  · rintro ⟨e, h1, h2⟩
    obtain ⟨z, hz, rfl⟩ := Ways.mem_ends.mp h2
    exact ⟨z, hz, h1⟩
theorem bits_pos {T : Nat} {l : PatWords.Ends} {z : Nat × Caps} (h : fst (fun e => T.testBit e) l = some z) : 0 < T := Bits.pos_of (Ways.fst_some_of h).2
/-- from ways, each followed by others: the first one -/
theorem fst_step {T : Nat} {l : PatWords.Ends} {F : Nat → PatWords.Ends} {m : Nat} {y : Nat × Caps} (h : fst (fun e => T.testBit e) (l.flatMap (Ways.glue F)) = some y) (hm : ∀ z ∈ l, m.testBit z.1 = true ↔ ∃ e, T.testBit e = true ∧ e ∈ Ways.ends (F z.1)) :
    ∃ z1 y1, fst (fun e => m.testBit e) l = some z1 ∧ z1 ∈ l ∧ fst (fun e => T.testBit e) (F z1.1) = some y1 ∧ y = (y1.1, y1.2 ++ z1.2) := by
  rw [Ways.fst_flat] at h
  have e : fst (fun e => m.testBit e) l = fst (fun e => (fst (fun e => T.testBit e) (F e)).isSome) l := fst_congr fun z hz => by
    rw [Bool.eq_iff_iff, fst_some_iff]
    exact hm z hz
  rw [← e] at h
  cases e1 : fst (fun e => m.testBit e) l with
  | none => rw [e1] at h; cases h
  | some z1 =>
    rw [e1] at h
    dsimp only [Option.bind] at h
    cases e2 : fst (fun e => T.testBit e) (F z1.1) with
    | none => rw [e2] at h; cases h
    | some y1 =>
      rw [e2] at h
      exact ⟨z1, y1, rfl, (Ways.fst_some_of e1).1, e2, (Option.some.inj h).symm⟩
section
variable {P : Program} {w : World} {K : PySem.W.Frag} {mg : Str → Option Value} {base : Heap} {cs : Cs} {CT : Addr} {H : Hp} {Q : VK} {E : XK}
/-! ### Row.follow -/
theorem scRF : FnScope ["self", "place", "targets", "captures", "done", "step", "wanted"] psFo (defScope (sRN 2)) := ⟨rfl, rfl, rfl, by decide +kernel, rfl, by decide +kernel, by decide +kernel⟩
theorem ok_rf' {f : Addr} {fd : FuncData} (F : Fun K "follow" "Row.follow" (sRN 2) f fd) (T : TxN K cs) (henum : mg "enumerate" = none) (GL : GOk P w K mg base CX0 3 "leading_to" ["targets", "reach", "places"] (spLead K)) (d L : Nat) (hL : 6 ≤ L) (MM : ∀ τ, MOk P w K mg base CX0 (cs.tag τ) L "follow" psFo (spFo K cs d τ)) : FnOk P w K mg base CX0 (L + 1) f fd psFo (spFo K cs (d + 1) .r) := by
  obtain ⟨f1, fd1, gg1, k1, b1, G1⟩ := GL
  refine F.ok scRF (fun vs H Q E h => fo_len h) (fun cdv A outer s H vs Q E hr h => ⟨_, pss_cons (ps_for PassesOwn.never rfl (pi_enum (by rfl) henum (by exact (pa_cons (pe_fld (pv 0) rfl) pa_nil))) (pg_tup rfl (pgs_cons (pg_name (i := 4) scRF.nd rfl (Or.inl rfl)) (pgs_cons (pg_name (i := 5) scRF.nd rfl (Or.inl rfl)) pgs_nil)))
        (pss_cons (ps_set (i := 6) scRF.nd rfl (.inl rfl) (pe_call G1 (hr.mono (by omega)) rfl gg1 k1 b1 .nil pass0 (by exact (pa_cons (pv 2) (pa_cons (pe_ix ix_list (pe_fld (pv 0) rfl) (pe_op op_add (pv 4) pe_int) (fun _ _ => rfl)) (pa_cons (pe_ix ix_list (pe_fld (pv 5) rfl) (pv 1) (fun _ _ => rfl)) pa_nil))))))
        (pss_one (ps_set (i := 1) scRF.nd rfl (.inl rfl) (pe_poly MM T hr (pv 5) (by exact (pa_cons (pv 1) (pa_cons (pv 6) (pa_cons (pv 3) pa_nil)))))))))
      (pss_one (ps_ret (pv 1))), ?_⟩)
  unfold spFo at h
  obtain ⟨b, ac, p, TT, i, M, B, G, nm, t, ws0, c, z, rfl, hb, ht, hd, hf, hdt, hp, hz, hQ⟩ := h
  obtain ⟨dx, kd, di, wf⟩ := i
  cases kd with
  | row al bs =>
    obtain ⟨hbl, ws, hkids, hst⟩ : bs.length ≤ 1000 ∧ ∃ ws, Kids M di bs ws ∧ wf = seqsWF ws := hf.fz.stat b _ hb
    have hal : G al = some (.lst (bs.map V.ref)) := hf.fz.aux b _ hb
    obtain ⟨i', hi', rg, ra, ns, hn, _, _, haft⟩ := hdt.at
    rw [hb] at hi'
    cases hi'
    obtain ⟨rs, ws', d', hra, _, _, hrl, hkids', hrs⟩ := haft
    have ew : ws' = ws := hkids'.det hkids
    subst ew
    have hkl := hkids.len
    have hkid : ∀ x ∈ bs, DT cs M B t G x := by
      cases hdt with
      | mk h1 _ h3 =>
        rw [hb] at h1
        cases h1
        exact h3
    have hT0 : 0 < TT := bits_pos hz
    have hz : fst (fun e => TT.testBit e) (wf t p) = some z := hz
    rw [hst] at hz
    refine ⟨_, rfl, b, cs.r, dx, _, _, rfl, hf.same _ _ hn, T.clr, T.r1, lk_here, al, _, rfl, SqL.of (hf.same _ _ hal), ?_⟩
    refine for_it (walk_enum (xs := bs.map V.ref)) (fun j σ H' => ∃ (q : Nat) (wsv : List V) (acc : Caps) (y : Nat × Caps), (∃ v4 v5 v6, σ = [some (.ref b), some (.int (q : Nat)), some (.int (TT : Nat)), some (.ref ac), v4, v5, v6]) ∧ FoAt K cs M B G nm t ac H' wsv (acc ++ c) ∧ Kept H H' ac ∧ q ≤ t.length ∧ fst (fun e => TT.testBit e) (seqsWF (ws'.drop j) t q) = some y ∧ y.1 = z.1 ∧ y.2 ++ acc = z.2) ?_ (fun j σ H' _ h => ?_) ?_ ?_
    · exact ⟨p, ws0, [], z, ⟨_, _, _, rfl⟩, hf, Kept.refl _ _, hp, hz, rfl, List.append_nil _⟩
    · obtain ⟨_, _, _, _, _, h, _⟩ := h
      exact SqL.of (h.same _ _ hal)
    · rintro j x σ H1 H2 hj ⟨q, wsv, acc, y, ⟨v4, v5, v6, rfl⟩, hf1, k1, hq, hy, hy1, hy2⟩ ⟨Tp, x0, y0, rfl, hTp, rfl, hx0, hy0⟩
      rw [List.length_map] at hj
      cases hx0
      have hy0 : (bs.map V.ref)[j]? = some y0 := hy0
      rw [List.getElem?_map] at hy0
      obtain ⟨cc, hc, rfl⟩ : ∃ cc, bs[j]? = some cc ∧ y0 = V.ref cc := by
        cases e : bs[j]? with
        | none => rw [e] at hy0; cases hy0
        | some cc => rw [e] at hy0; exact ⟨cc, rfl, (Option.some.inj hy0).symm⟩
      obtain ⟨ic, hic, hicd, hwc⟩ := hkids.get hc
      have hdc := hkid cc (List.mem_of_getElem? hc)
      obtain ⟨ic', hic', rgc, rac, nsc, hnc, lc, repc, _⟩ := hdc.at
      rw [hic] at hic'
      cases hic'
      have s2 := Same.upd (o := HO.tup [V.int (j : Nat), V.ref cc]) hTp
      have hf2 := hf1.sameH s2
      have k2 := k1.trans (Kept.of_same s2)
      refine ⟨Tp, _, rfl, SqT.of upd_same, rfl, _, _, rfl, _, _, rfl, rfl, ?_⟩
      -- the next list
      have hjr : j + 1 < rs.length := by omega
      obtain ⟨r1, hr1⟩ : ∃ r1, rs[j + 1]? = some r1 := ⟨_, List.getElem?_eq_getElem hjr⟩
      obtain ⟨ks1, l1, rep1⟩ := hrs (j + 1) r1 hr1
      have ej : ((j : Nat) : Int) + 1 = ((j + 1 : Nat) : Int) := by omega
      refine ⟨_, rfl, _, rfl, b, cs.r, dx, _, _, rfl, hf2.same _ _ hn, T.clr, T.r3, rF_reachR, _, rfl, _, _, rfl, rfl, ?_⟩
      refine ⟨ra, _, _, V.ref r1, rfl, rfl, SqL.of (hf2.same _ _ hra), by rw [ej]; exact atI_nat (by rw [List.getElem?_map, hr1]; rfl), ?_⟩
      refine ⟨_, rfl, cc, cs.at ic.kd, ic.dx, _, _, rfl, hf2.same _ _ hnc, by rw [at_tag]; exact T.cl _, by rw [at_tag]; exact T.re _, nF_reach _ _ _, _, rfl, rgc, _, _, _, rfl, rfl, SqL.of (hf2.same _ _ lc.1), atI_nat (iv_at (repc.get hq)), ?_⟩
      have hmem : ∀ x ∈ ws'.drop (j + 1), FwdW x := fun x hx => by
        obtain ⟨n, hn2, e⟩ := List.getElem_of_mem (List.mem_of_mem_drop hx)
        obtain ⟨bb, hbb⟩ : ∃ bb, bs[n]? = some bb := ⟨_, List.getElem?_eq_getElem (by omega)⟩
        obtain ⟨ib, h1, _, h2⟩ := hkids.get hbb
        rw [List.getElem?_eq_getElem hn2, e] at h2
        rw [Option.some.inj h2]
        exact hf.fz.fwd _ _ h1
      have hfr : FwdW (seqsWF (ws'.drop (j + 1))) := Ways.fwd_seqs hmem
      have hplb : ∀ e, (nsc.getD q 0).testBit e = true → e ≤ t.length := fun e he => by
        obtain ⟨_, h⟩ := ends_onw (hf.fz.fwd _ _ hic) t q hq e ((repc.2 q hq e).mp he)
        exact h
      refine lead_use (SqL.of (hf2.same _ _ l1.1)) (by have := hf.tlen; omega) rep1 (ends_onw hfr t) hT0 hplb fun m hm => ?_
      have hdr : ws'.drop j = ic.wf :: ws'.drop (j + 1) := by
        obtain ⟨hlt, e7⟩ := List.getElem?_eq_some_iff.mp hwc
        rw [List.drop_eq_getElem_cons hlt, e7]
      rw [hdr] at hy
      obtain ⟨z1, y1, hz1, hz1m, hy1', rfl⟩ := fst_step (m := m) hy fun x hx => by
        rw [hm, repc.2 q hq]
        constructor
        · exact fun h => h.2
        · exact fun h => ⟨Ways.mem_ends.mpr ⟨x, hx, rfl⟩, h⟩
      have hz1n : z1.1 ≤ t.length := (hf.fz.fwd _ _ hic t q hq z1 hz1m).2
      refine ⟨tagOf ic.kd, _, rfl, cc, ic.dx, _, rfl, by rw [← at_tag]; exact hf2.same _ _ hnc, nF_no (by decide +kernel) _ _ _, _, rfl, _, rfl, _, rfl, ?_⟩
      refine fo_use hic rfl (by have hd' : di < d + 1 := hd; omega) hf2 hdc hq hz1 fun H3 ws3 hf3 k3 => ?_
      rw [← List.append_assoc] at hf3
      refine ⟨z1.1, ws3, z1.2 ++ acc, y1, ⟨_, _, _, rfl⟩, hf3, k2.trans k3, hz1n, hy1', hy1, ?_⟩
      rw [← hy2]
      simp
    · rintro σ H1 ⟨q, wsv, acc, y, ⟨v4, v5, v6, rfl⟩, hf1, k1, hq, hy, hy1, hy2⟩
      rw [List.length_map, hkl, List.drop_length] at hy
      have hym := (Ways.fst_some_of hy).1
      have ey : y = (q, []) := List.mem_singleton.mp hym
      subst ey
      have h1 : q = z.1 := hy1
      have h2 : acc = z.2 := hy2
      rw [h2] at hf1
      refine ⟨_, rfl, ?_⟩
      rw [h1]
      exact hQ H1 wsv hf1 k1
  | one ar l neg => cases ht
  | stand s0 => cases ht
  | choice al bs => cases ht
  | rep c m n => cases ht
  | cap k c => cases ht
/-! ### Choice.follow -/
abbrev nmCF : List Str := ["self", "place", "targets", "captures", "fitting", "row"]
theorem scCF : FnScope nmCF psFo (defScope (sCN 2)) := ⟨rfl, rfl, rfl, by decide +kernel, rfl, by decide +kernel, by decide +kernel⟩
theorem fst_alts {T : Nat → Bool} {ws : List WF} {t : List Nat} {p k : Nat} {x : WF} (h : ws[k]? = some x) (h0 : ∀ y ∈ ws.take k, fst T (y t p) = none) (h1 : (fst T (x t p)).isSome = true) : fst T (altsWF ws t p) = fst T (x t p) := by
  have e : ws = ws.take k ++ x :: ws.drop (k + 1) := by
    obtain ⟨hlt, e7⟩ := List.getElem?_eq_some_iff.mp h
    rw [← e7, ← List.drop_eq_getElem_cons hlt, List.take_append_drop]
  have e2 : altsWF ws t p = altsWF (ws.take k) t p ++ (x t p ++ altsWF (ws.drop (k + 1)) t p) := by
    unfold altsWF
    conv => lhs; rw [e]
    rw [List.flatMap_append, List.flatMap_cons]
  rw [e2, Ways.fst_append, Ways.fst_append]
  have e3 : fst T (altsWF (ws.take k) t p) = none := by
    rw [Ways.fst_none_iff]
    intro z hz
    obtain ⟨y, hy, hz⟩ := List.mem_flatMap.mp hz
    exact Ways.fst_none_iff.mp (h0 y hy) z hz
  rw [e3]
  cases e4 : fst T (x t p) with
  | none => rw [e4] at h1; cases h1
  | some z => rfl
def tFit (K : PySem.W.Frag) : TT := fun σ H Q => (tOp (rI0 fun i j => .int (Builtin.bitAnd i j)) (tOp (rIxL K) (tFld K (tVar 5) "reach") (tVar 1)) (tVar 2)) σ H fun x H' => ∃ k, TruV K x H' k ∧ Q k H'
theorem ok_cf {f : Addr} {fd : FuncData} (F : Fun K "follow" "Choice.follow" (sCN 2) f fd) (T : TxN K cs) (d L : Nat) (MM : ∀ τ, MOk P w K mg base CX0 (cs.tag τ) L "follow" psFo (spFo K cs d τ)) : FnOk P w K mg base CX0 (L + 1) f fd psFo (spFo K cs (d + 1) .c) := by
  refine F.ok scCF (fun vs H Q E h => fo_len h) (fun cdv A outer s H vs Q E hr h => ⟨_, pss_cons (ps_setLc (i := 4) (own := [("row", 5)]) (g := gName 5) (tt := tFit K) (te := tVar 5) rfl scCF.nd rfl rfl (sw_true rfl rfl rfl (by decide +kernel)) (pi_list (pe_fld (pv 0) rfl)) (blkOk_by (N := nmCF) (sc := defScope (sCN 2)) (by decide +kernel))
          (fun _ _ _ _ _ => pg_name (i := 5) scCF.nd rfl (Or.inl rfl)) (fun _ _ _ _ _ => by exact (pts_one (pt_truth (pe_op op_and (pe_ix ix_list (pe_fld (pv 5) rfl) (pv 1) (fun _ _ => rfl)) (pv 2)) (by intro _; rfl))))
          (fun _ _ _ _ _ => pv 5))
      (pss_one (ps_ret (pe_poly MM T hr (pe_ix ix_list (pv 4) pe_int (fun _ _ => rfl)) (by exact (pa_cons (pv 1) (pa_cons (pv 2) (pa_cons (pv 3) pa_nil))))))), ?_⟩)
  unfold spFo at h
  obtain ⟨b, ac, p, TT, i, M, B, G, nm, t, ws0, c, z, rfl, hb, ht, hd, hf, hdt, hp, hz, hQ⟩ := h
  obtain ⟨dx, kd, di, wf⟩ := i
  cases kd with
  | choice al bs =>
    obtain ⟨hbl, ws, hkids, hst⟩ : bs.length ≤ 1000 ∧ ∃ ws, Kids M di bs ws ∧ wf = altsWF ws := hf.fz.stat b _ hb
    have hal : G al = some (.lst (bs.map V.ref)) := hf.fz.aux b _ hb
    obtain ⟨i', hi', rg, ra, ns, hn, _, _, _⟩ := hdt.at
    rw [hb] at hi'
    cases hi'
    have hkl := hkids.len
    have hkid : ∀ x ∈ bs, DT cs M B t G x := by
      cases hdt with
      | mk h1 _ h3 =>
        rw [hb] at h1
        cases h1
        exact h3
    have hz : fst (fun e => TT.testBit e) (wf t p) = some z := hz
    rw [hst] at hz
    refine ⟨_, rfl, b, cs.c, dx, _, _, rfl, hf.same _ _ hn, T.clc, T.c1, lk_here, al, rfl, ⟨_, SqL.of (hf.same _ _ hal)⟩, fun D hD => ?_⟩
    refine lc_it walk_list (fun i H' => Same H H' ∧ ∃ fs : List Addr, H' D = some (.lst (fs.map V.ref)) ∧ fs.length ≤ i ∧ ((fs = [] ∧ ∀ y ∈ ws.take i, fst (fun e => TT.testBit e) (y t p) = none) ∨ ∃ (k : Nat) (x : Addr) (fs' : List Addr) (y : WF), fs = x :: fs' ∧ bs[k]? = some x ∧ ws[k]? = some y ∧ (∀ y ∈ ws.take k, fst (fun e => TT.testBit e) (y t p) = none) ∧ (fst (fun e => TT.testBit e) (y t p)).isSome = true)) ?_ (fun i H' _ h => SqL.of (h.1 _ _ (hf.same _ _ hal))) ?_ ?_
    · exact ⟨Same.upd hD, [], upd_same, Nat.le_refl _, .inl ⟨rfl, fun y m => nomatch m⟩⟩
    · rintro i x H1 H2 hi ⟨s1, fs, e1, hfl, hor⟩ ⟨rfl, hx⟩
      rw [List.length_map] at hi
      rw [List.getElem?_map] at hx
      obtain ⟨cc, hc, rfl⟩ : ∃ cc, bs[i]? = some cc ∧ x = V.ref cc := by
        cases e : bs[i]? with
        | none => rw [e] at hx; cases hx
        | some cc => rw [e] at hx; exact ⟨cc, rfl, (Option.some.inj hx).symm⟩
      obtain ⟨ic, hic, hicd, hwc⟩ := hkids.get hc
      have hdc := hkid cc (List.mem_of_getElem? hc)
      obtain ⟨ic', hic', rgc, rac, nsc, hnc, lc, repc, _⟩ := hdc.at
      rw [hic] at hic'
      cases hic'
      have hf1 := hf.sameH s1
      refine ⟨rfl, ?_⟩
      unfold tFit
      refine ⟨_, rfl, cc, cs.at ic.kd, ic.dx, _, _, rfl, hf1.same _ _ hnc, by rw [at_tag]; exact T.cl _, by rw [at_tag]; exact T.re _, nF_reach _ _ _, _, rfl, rgc, _, _, _, rfl, rfl, SqL.of (hf1.same _ _ lc.1), atI_nat (iv_at (repc.get hp)), _, rfl, _, _, rfl, rfl, _, rfl, ?_⟩
      dsimp only
      rw [Bits.int_and]
      have htk : ws.take (i + 1) = ws.take i ++ [ic.wf] := by rw [List.take_add_one, hwc]; rfl
      have key : nsc.getD p 0 &&& TT ≠ 0 ↔ (fst (fun e => TT.testBit e) (ic.wf t p)).isSome = true := by
        rw [and_pos, fst_some_iff]
        constructor
        · rintro ⟨e, h1, h2⟩
          exact ⟨e, h2, (repc.2 p hp e).mp h1⟩
        · rintro ⟨e, h1, h2⟩
          exact ⟨e, (repc.2 p hp e).mpr h2, h1⟩
      by_cases c0 : nsc.getD p 0 &&& TT = 0
      · rw [c0]
        refine if_false_of rfl ⟨s1, fs, e1, Nat.le_succ_of_le hfl, ?_⟩
        have hnone : fst (fun e => TT.testBit e) (ic.wf t p) = none := by
          cases e : fst (fun e => TT.testBit e) (ic.wf t p) with
          | none => rfl
          | some _ => exact absurd c0 (key.mpr (by rw [e]; rfl))
        rcases hor with ⟨h1, h2⟩ | h
        · refine .inl ⟨h1, fun y m => ?_⟩
          rw [htk] at m
          rcases List.mem_append.mp m with m | m
          · exact h2 y m
          · rw [List.mem_singleton.mp m]
            exact hnone
        · exact .inr h
      · refine if_true_of (by rw [bne_iff_ne]; omega) ⟨_, rfl, _, e1, by rw [List.length_map]; exact small1000 (by omega), Same.upd' s1 hD, fs ++ [cc], by rw [upd_same, List.map_append]; rfl, by rw [List.length_append]; simp; exact hfl, .inr ?_⟩
        rcases hor with ⟨h1, h2⟩ | ⟨k, x, fs', y, h1, h2⟩
        · exact ⟨i, cc, [], ic.wf, by rw [h1]; rfl, hc, hwc, h2, key.mp c0⟩
        · exact ⟨k, x, fs' ++ [cc], y, by rw [h1]; rfl, h2⟩
    · rintro H1 ⟨s1, fs, e1, hfl, hor⟩
      have etk : ws.take (bs.map V.ref).length = ws := List.take_of_length_le (by rw [List.length_map, hkl]; exact Nat.le_refl _)
      rw [etk] at hor
      rcases hor with ⟨_, h2⟩ | ⟨k, x, fs', y, rfl, hx, hy, h0, h1⟩
      · have : fst (fun e => TT.testBit e) (altsWF ws t p) = none := Ways.fst_none_iff.mpr fun z hz => by
          obtain ⟨y, hy, hz⟩ := List.mem_flatMap.mp hz
          exact Ways.fst_none_iff.mp (h2 y hy) z hz
        rw [this] at hz
        cases hz
      · rw [fst_alts hy h0 h1] at hz
        obtain ⟨ic, hic, hicd, hwc⟩ := hkids.get hx
        rw [hy] at hwc
        cases hwc
        have hdc := hkid x (List.mem_of_getElem? hx)
        obtain ⟨ic', hic', rgc, rac, nsc, hnc, lc, repc, _⟩ := hdc.at
        rw [hic] at hic'
        cases hic'
        have hf1 := hf.sameH s1
        refine ⟨tagOf ic.kd, _, rfl, D, _, _, _, rfl, rfl, SqL.of e1, atI_nat (j := 0) rfl, x, ic.dx, _, rfl, by rw [← at_tag]; exact hf1.same _ _ hnc, nF_no (by decide +kernel) _ _ _, _, rfl, _, rfl, _, rfl, ?_⟩
        exact fo_use hic rfl (by have hd' : di < d + 1 := hd; omega) hf1 hdc hp hz fun H3 ws3 hf3 k3 => hQ H3 ws3 hf3 ((Kept.of_same s1).trans k3)
  | one ar l neg => cases ht
  | stand s0 => cases ht
  | row al bs => cases ht
  | rep c m n => cases ht
  | cap k c => cases ht
end
end Pat
end

section
namespace Pat
open PySem PySem.Spec PyProof.Rows L2
open PatWords (Name Caps)
open Ways (WF FwdW FitsW FitAll oneWF seqsWF altsWF repWF capWF Reach fst repW)
theorem fst_filter {T : Nat → Bool} {p : Nat × Caps → Bool} : ∀ {l : PatWords.Ends}, (∀ z ∈ l, T z.1 = true → p z = true) → fst T (l.filter p) = fst T l
  | [], _ => rfl
  | z :: l, h => by
    have ih := fst_filter (l := l) fun y m => h y (List.mem_cons_of_mem _ m)
    by_cases c : T z.1 = true
    · rw [List.filter_cons_of_pos (h z (List.mem_cons_self ..) c), Ways.fst_pos c, Ways.fst_pos c]
    · rw [Ways.fst_neg c]
      by_cases d : p z = true
      · rw [List.filter_cons_of_pos d, Ways.fst_neg c, ih]
      · rw [List.filter_cons_of_neg d, ih]
/-- where one time more may come to -/
def Wanted (w : Nat → PatWords.Ends) (m : Nat) (mo : Option Nat) (T k q : Nat) (x : Nat) : Prop := ∀ i, x.testBit i = true ↔ Ways.more mo k = true ∧ (∃ z ∈ w q, z.1 = i) ∧ ¬ (i = q ∧ m ≤ k) ∧ ∃ e, T.testBit e = true ∧ Reach w m mo (k + 1) i e
/-- one time more -/
theorem rep_more {w : Nat → PatWords.Ends} {n m : Nat} {mo : Option Nat} {T k q x f : Nat} {y : Nat × Caps} (hw : Ways.Fwd w n) (hq : q ≤ n) (hf : (m - k) + (n - q) + 1 ≤ f) (hx : Wanted w m mo T k q x) (h0 : x ≠ 0) (h : fst (fun e => T.testBit e) (repW w m mo f k q) = some y) :
    ∃ z1 y1 f', fst (fun e => x.testBit e) (w q) = some z1 ∧ z1 ∈ w q ∧ ¬ (z1.1 = q ∧ m ≤ k) ∧ Ways.more mo k = true ∧ fst (fun e => T.testBit e) (repW w m mo f' (k + 1) z1.1) = some y1 ∧ y = (y1.1, y1.2 ++ z1.2) ∧ (m - (k + 1)) + (n - z1.1) + 1 ≤ f' ∧ (m - (k + 1)) + (n - z1.1) < (m - k) + (n - q) := by
  obtain ⟨f, rfl⟩ : ∃ g, f = g + 1 := ⟨f - 1, by omega⟩
  have hb := Bits.log2_bit (Nat.pos_of_ne_zero h0)
  obtain ⟨hmore, ⟨z0, hz0, hz0e⟩, hne0, e0, hT0, hr0⟩ := (hx _).mp hb
  have fuel : ∀ z ∈ w q, ¬ (z.1 = q ∧ m ≤ k) → z.1 ≤ n ∧ (m - (k + 1)) + (n - z.1) + 1 ≤ f ∧ (m - (k + 1)) + (n - z.1) < (m - k) + (n - q) := fun z hz hn => by
    obtain ⟨h1, h2⟩ := hw q hq z hz
    by_cases cm : m ≤ k
    · have : z.1 ≠ q := fun x => hn ⟨x, cm⟩
      omega
    · omega
  rw [repW, if_pos hmore, Ways.fst_append] at h
  have hsome : (fst (fun e => T.testBit e) (((w q).filter fun z => !(decide (z.1 = q) && decide (m ≤ k))).flatMap (Ways.glue fun j => repW w m mo f (k + 1) j))).isSome = true := by
    rw [fst_some_iff]
    rw [← hz0e] at hne0 hr0
    obtain ⟨hzn, hzf, _⟩ := fuel z0 hz0 hne0
    exact ⟨e0, hT0, Ways.ends_flat.mpr ⟨z0, Ways.filt.mpr ⟨hz0, hne0⟩, Ways.repW_complete hw hr0 f hzn hzf⟩⟩
  cases e1 : fst (fun e => T.testBit e) (((w q).filter fun z => !(decide (z.1 = q) && decide (m ≤ k))).flatMap (Ways.glue fun j => repW w m mo f (k + 1) j)) with
  | none => rw [e1] at hsome; cases hsome
  | some y' =>
    rw [e1] at h
    have h : y' = y := Option.some.inj h
    subst h
    obtain ⟨z1, y1, hz1, hz1m, hy1, hyy⟩ := fst_step (m := x) e1 fun z hz => by
      obtain ⟨hz, hn⟩ := Ways.filt.mp hz
      obtain ⟨hzn, hzf, _⟩ := fuel z hz hn
      rw [hx]
      constructor
      · rintro ⟨_, _, _, e, h1, h2⟩
        exact ⟨e, h1, Ways.repW_complete hw h2 f hzn hzf⟩
      · rintro ⟨e, h1, h2⟩
        exact ⟨hmore, ⟨z, hz, rfl⟩, hn, e, h1, Ways.repW_sound _ _ _ _ h2⟩
    obtain ⟨hz1w, hz1n⟩ := Ways.filt.mp hz1m
    have hfil : fst (fun e => x.testBit e) ((w q).filter fun z => !(decide (z.1 = q) && decide (m ≤ k))) = fst (fun e => x.testBit e) (w q) := fst_filter fun z hz hb => Ways.keep_of ((hx _).mp hb).2.2.1
    rw [hfil] at hz1
    obtain ⟨_, hzf, hlt⟩ := fuel z1 hz1w hz1n
    exact ⟨z1, y1, f, hz1, hz1w, hz1n, hmore, hy1, hyy, hzf, hlt⟩
/-- no time more -/
theorem rep_stop {w : Nat → PatWords.Ends} {n m : Nat} {mo : Option Nat} {T k q f : Nat} {y : Nat × Caps} (hw : Ways.Fwd w n) (hq : q ≤ n) (hx : Wanted w m mo T k q 0) (h : fst (fun e => T.testBit e) (repW w m mo f k q) = some y) : y = (q, []) := by
  cases f with
  | zero => cases h
  | succ f =>
    rw [repW, Ways.fst_append] at h
    have hnone : fst (fun e => T.testBit e) (if Ways.more mo k = true then ((w q).filter fun z => !(decide (z.1 = q) && decide (m ≤ k))).flatMap (Ways.glue fun j => repW w m mo f (k + 1) j) else []) = none := by
      cases e : fst (fun e => T.testBit e) (if Ways.more mo k = true then ((w q).filter fun z => !(decide (z.1 = q) && decide (m ≤ k))).flatMap (Ways.glue fun j => repW w m mo f (k + 1) j) else []) with
      | none => rfl
      | some y' =>
        obtain ⟨hm, hT⟩ := Ways.fst_some_of e
        split at hm
        · rename_i hmore
          obtain ⟨z, hz, he⟩ := Ways.ends_flat.mp (Ways.mem_ends.mpr ⟨y', hm, rfl⟩)
          obtain ⟨hz, hn⟩ := Ways.filt.mp hz
          have := (hx z.1).mpr ⟨hmore, ⟨z, hz, rfl⟩, hn, y'.1, hT, Ways.repW_sound _ _ _ _ he⟩
          rw [Nat.zero_testBit] at this
          cases this
        · cases hm
    rw [hnone] at h
    have hm := (Ways.fst_some_of (show fst (fun e => T.testBit e) (if m ≤ k then [(q, [])] else []) = some y from h)).1
    split at hm
    · exact List.mem_singleton.mp hm
    · cases hm
theorem reach_onw {w : WF} {t : List Nat} {m : Nat} {mo : Option Nat} {k : Nat} (h : FwdW w) : Onw t.length (Reach (w t) m mo k) := fun i hi e r => Ways.reach_le (h t) r hi
section
variable {P : Program} {w : World} {K : PySem.W.Frag} {mg : Str → Option Value} {base : Heap} {cs : Cs} {CT : Addr} {H : Hp} {Q : VK} {E : XK}
/-! ### Repetition.wanted_next -/
structure RepAt (cs : Cs) (H : Hp) (b c ra : Addr) (wb : WF) (t : List Nat) (m : Nat) (mo : Option Nat) : Prop where
  nd : ∃ dx rg, H b = some (.ins cs.p dx (nF rg ra (.rep c m mo)))
  bd : BodyAt cs H c t.length (EndsOf wb t)
  af : ∃ rs : List Addr, H ra = some (.lst (rs.map V.ref)) ∧ rs.length = mo.getD m + 1 ∧ ∀ k r, rs[k]? = some r → ∃ ks, H r = some (.lst (iv ks)) ∧ Rep t.length ks (Reach (wb t) m mo k)
  fw : FwdW wb
theorem RepAt.same {b c ra : Addr} {wb : WF} {t : List Nat} {m : Nat} {mo : Option Nat} {H' : Hp} (h : RepAt cs H b c ra wb t m mo) (s : Same H H') : RepAt cs H' b c ra wb t m mo := by
  obtain ⟨⟨dx, rg, h1⟩, h2, ⟨rs, h3, h4, h5⟩, h6⟩ := h
  refine ⟨⟨dx, rg, s _ _ h1⟩, h2.same s, ⟨rs, s _ _ h3, h4, fun k r e => ?_⟩, h6⟩
  obtain ⟨ks, h7, h8⟩ := h5 k r e
  exact ⟨ks, s _ _ h7, h8⟩
@[irreducible] def spWn (cs : Cs) : Sp := fun vs H Q _ => ∃ (b c ra : Addr) (wb : WF) (t : List Nat) (m : Nat) (mo : Option Nat) (k q T : Nat), vs = [.ref b, .int (k : Nat), .int (q : Nat), .int (T : Nat)] ∧ RepAt cs H b c ra wb t m mo ∧ (∀ x, mo = some x → k ≤ x) ∧ q ≤ t.length ∧ t.length ≤ 128 ∧ 0 < T ∧ ∀ x : Nat, Wanted (wb t) m mo T k q x → Q (.int (x : Nat)) H
theorem wn_use {b c ra : Addr} {wb : WF} {t : List Nat} {m : Nat} {mo : Option Nat} {k q T : Nat} (h : RepAt cs H b c ra wb t m mo) (hk : ∀ x, mo = some x → k ≤ x) (hq : q ≤ t.length) (ht : t.length ≤ 128) (hT : 0 < T) (r : ∀ x : Nat, Wanted (wb t) m mo T k q x → Q (.int (x : Nat)) H) : spWn cs [.ref b, .int (k : Nat), .int (q : Nat), .int (T : Nat)] H Q E := by
  unfold spWn
  exact ⟨b, c, ra, wb, t, m, mo, k, q, T, rfl, h, hk, hq, ht, hT, r⟩
theorem scWn : FnScope ["self", "times", "place", "targets", "after", "wanted"] ["self", "times", "place", "targets"] (defScope (sPN 3)) := ⟨rfl, rfl, rfl, by decide +kernel, rfl, by decide +kernel, by decide +kernel⟩
theorem ok_wn {f : Addr} {fd : FuncData} (F : Fun K "wanted_next" "Repetition.wanted_next" (sPN 3) f fd) (T : TxN K cs) (hlen : mg "len" = none) (hmin : mg "min" = none) (GL : GOk P w K mg base CX0 3 "leading_to" ["targets", "reach", "places"] (spLead K)) (G2 : GOk P w K mg base CX0 2 "without" ["places", "taken"] spSans) (G3 : GOk P w K mg base CX0 2 "only" ["place"] spOnly) : FnOk P w K mg base CX0 4 f fd ["self", "times", "place", "targets"] (spWn cs) := by
  obtain ⟨f1, fd1, gg1, k1, b1, G1⟩ := GL
  obtain ⟨f2, fd2, gg2, k2, b2, G2⟩ := G2
  obtain ⟨f3, fd3, gg3, k3, b3, G3⟩ := G3
  refine F.ok scWn (fun vs H Q E h => ?_) (fun cdv A outer s H vs Q E hr h => ⟨_, pss_cons (ps_if (pt_cmpR op_eq (pv 1) (pe_fld (pv 0) rfl) (nomark _)) (pss_one (ps_ret pe_int)) pss_nil)
      (pss_cons (ps_set (i := 4) scWn.nd rfl (.inl rfl) (pe_callB (call_min2 rfl) (by rfl) hmin (by decide +kernel) (by exact (pa_cons (pe_op op_add (pv 1) pe_int) (pa_cons (pe_op op_sub (pe_callB call_len_seq (by rfl) hlen PySem.boot_len (pa_cons (pe_fld (pv 0) rfl) pa_nil)) pe_int) pa_nil)))))
      (pss_cons (ps_set (i := 5) scWn.nd rfl (.inl rfl) (pe_call G1 hr rfl gg1 k1 b1 .nil pass0 (by exact (pa_cons (pv 3) (pa_cons (pe_ix ix_list (pe_fld (pv 0) rfl) (pv 4) (fun _ _ => rfl)) (pa_cons (pe_ix ix_list (pe_fld (pe_fld (pv 0) rfl) rfl) (pv 2) (fun _ _ => rfl)) pa_nil))))))
      (pss_cons (ps_if (pt_cmpR op_lt (pv 1) (pe_fld (pv 0) rfl) (nomark _)) (pss_one (ps_ret (pv 5))) pss_nil)
      (pss_one (ps_ret (pe_call G2 (hr.mono (by decide)) rfl gg2 k2 b2 .nil pass0 (by exact (pa_cons (pv 5) (pa_cons (pe_call G3 (hr.mono (by decide)) rfl gg3 k3 b3 .nil pass0 (by exact (pa_cons (pv 2) pa_nil))) pa_nil))))))))), ?_⟩)
  · unfold spWn at h
    obtain ⟨_, _, _, _, _, _, _, _, _, _, rfl, _⟩ := h
    rfl
  unfold spWn at h
  obtain ⟨b, c, ra, wb, t, m, mo, k, q, TT, rfl, h, hk, hq, htl, hT, hQ⟩ := h
  obtain ⟨⟨dx, rg, hn⟩, ⟨τ, dxc, rgc, rac, kdc, nsc, hτ, hnc, lc, repc⟩, ⟨rs, hra, hrl, hrs⟩, hfw⟩ := h
  refine ⟨_, rfl, _, rfl, b, cs.p, dx, _, _, rfl, hn, T.clp, T.p3, pF_most, by cases mo <;> rfl, _, rfl, ?_⟩
  by_cases hend : mo = some k
  · refine if_true_of (decide_eq_true (by rw [hend]; rfl)) (hQ 0 fun i => ?_)
    rw [Nat.zero_testBit]
    constructor
    · intro h; cases h
    · rintro ⟨h, _⟩
      rw [hend] at h
      have : k < k := of_decide_eq_true h
      omega
  have hmore : Ways.more mo k = true := by
    unfold Ways.more
    cases mo with
    | none => rfl
    | some x =>
      have h1 := hk x rfl
      have h2 : x ≠ k := fun e => hend (by rw [e])
      exact decide_eq_true (by omega)
  refine if_false_of (decide_eq_false fun e => ?_) ?_
  · cases mo with
    | none => cases e
    | some x =>
      have e : V.int (k : Nat) = V.int (x : Nat) := e
      injection e with e
      exact hend (by rw [Int.ofNat.inj e])
  refine ⟨_, rfl, _, _, rfl, rfl, _, rfl, b, cs.p, dx, _, _, rfl, hn, T.clp, T.p5, pF_after, ra, _, rfl, .inl (SqL.of hra), _, _, rfl, rfl, _, _, rfl, ?_⟩
  have elen : (((rs.map V.ref).length : Nat) : Int) - 1 = ((mo.getD m : Nat) : Int) := by rw [List.length_map, hrl]; omega
  have emin : (if (((rs.map V.ref).length : Nat) : Int) - 1 < ((k : Nat) : Int) + 1 then (((rs.map V.ref).length : Nat) : Int) - 1 else ((k : Nat) : Int) + 1) = ((min (k + 1) (mo.getD m) : Nat) : Int) := by
    rw [elen]
    by_cases c : ((mo.getD m : Nat) : Int) < ((k : Nat) : Int) + 1
    · rw [if_pos c]; omega
    · rw [if_neg c]; omega
  rw [emin]
  obtain ⟨r1, hr1⟩ : ∃ r1, rs[min (k + 1) (mo.getD m)]? = some r1 := ⟨_, List.getElem?_eq_getElem (by omega)⟩
  obtain ⟨ks1, l1, rep1⟩ := hrs _ r1 hr1
  have rep2 : Rep t.length ks1 (Reach (wb t) m mo (k + 1)) := rep1.congr fun p hp e => by
    have ekk : Ways.kk m mo (min (k + 1) (mo.getD m)) = Ways.kk m mo (k + 1) := by
      unfold Ways.kk
      cases mo with
      | none =>
        simp only [Option.isNone_none, if_true, Option.getD_none]
        omega
      | some x =>
        have h1 := hk x rfl
        have h2 : x ≠ k := fun e => hend (by rw [e])
        simp only [Option.isNone_some, Bool.false_eq_true, if_false, Option.getD_some]
        omega
    exact ⟨fun h => Ways.reach_kk h _ ekk.symm, fun h => Ways.reach_kk h _ ekk⟩
  have honw : Onw t.length (EndsOf wb t) := ends_onw hfw t
  refine ⟨_, rfl, _, rfl, b, cs.p, dx, _, _, rfl, hn, T.clp, T.p5, pF_after, _, rfl, ra, _, _, V.ref r1, rfl, rfl, SqL.of hra, atI_nat (by rw [List.getElem?_map, hr1]; rfl), ?_⟩
  refine ⟨_, rfl, b, cs.p, dx, _, _, rfl, hn, T.clp, T.p1, pF_body, c, cs.tag τ, dxc, _, _, rfl, hnc, T.cl _, T.re _, nF_reach _ _ _, _, rfl, rgc, _, _, _, rfl, rfl, SqL.of lc, atI_nat (iv_at (repc.get hq)), ?_⟩
  have hplb : ∀ e, (nsc.getD q 0).testBit e = true → e ≤ t.length := fun e he => (honw q hq e ((repc.2 q hq e).mp he)).2
  refine lead_use (SqL.of l1) (by omega) rep2 (reach_onw hfw) hT hplb fun x hx => ?_
  have hends : ∀ i, (nsc.getD q 0).testBit i = true ↔ ∃ z ∈ wb t q, z.1 = i := fun i => (repc.2 q hq i).trans Ways.mem_ends
  refine ⟨_, rfl, _, rfl, b, cs.p, dx, _, _, rfl, hn, T.clp, T.p2, pF_least, _, _, rfl, rfl, _, rfl, ?_⟩
  by_cases ck : k < m
  · refine if_true_of (decide_eq_true (by omega)) ⟨_, rfl, hQ x fun i => ?_⟩
    rw [hx, hends]
    constructor
    · rintro ⟨h1, h2⟩
      exact ⟨hmore, h1, fun y => by omega, h2⟩
    · rintro ⟨_, h1, _, h2⟩
      exact ⟨h1, h2⟩
  · refine if_false_of (decide_eq_false (by omega)) ⟨_, rfl, _, rfl, ?_⟩
    refine only_use (by omega) ?_
    refine sans_use (hQ _ fun i => ?_)
    rw [Bits.sans_bit, Bool.and_eq_true, Bool.not_eq_true', hx, hends, Nat.testBit_two_pow, decide_eq_false_iff_not]
    constructor
    · rintro ⟨⟨h1, h2⟩, h3⟩
      exact ⟨hmore, h1, fun y => h3 y.1.symm, h2⟩
    · rintro ⟨_, h1, h2, h3⟩
      exact ⟨⟨h1, h3⟩, fun y => h2 ⟨y.symm, by omega⟩⟩
end
end Pat
end

section
namespace Pat
open PySem PySem.Spec PyProof.Rows L2
open PatWords (Name Caps)
open Ways (WF FwdW FitsW FitAll oneWF seqsWF altsWF repWF capWF Reach fst repW)
theorem hu64 {k : Nat} {A : Around} (hr : Room k A) : A.units + 64 < cLine := by
  have := hr.un
  omega
theorem pair_shaped (a b : Int) : SeqAt.shaped (.tuple [.int a, .int b]) = true := by
  unfold SeqAt.shaped
  simp [PyData.canLay0, PyData.canLayAll0, PyData.depth, PyData.depthAll]
theorem none_shaped : SeqAt.shaped .none = true := by
  unfold SeqAt.shaped
  simp [PyData.canLay0, PyData.depth]
theorem pair_eqv (a b c d : Int) : PyData.eqv (.tuple [.int a, .int b]) (.tuple [.int c, .int d]) = (decide (a = c) && decide (b = d)) := by
  simp only [PyData.eqv, PyData.eqvAll, Bool.and_true]
  rfl
section
variable {P : Program} {w : World} {K : PySem.W.Frag} {mg : Str → Option Value} {base : Heap} {cs : Cs} {CT : Addr} {H : Hp} {Q : VK} {E : XK}
/-! ### Repetition.follow -/
/-- what was gone through last, if the next time it is the same -/
def LastOk (K : PySem.W.Frag) (H : Hp) (w : Nat → PatWords.Ends) (q : Nat) (cc : Caps) (v : V) : Prop := v = .non ∨ ∃ (Tl : Addr) (q0 m0 : Nat) (y : Caps) (cold : Caps), v = .ref Tl ∧ SqT K H Tl [.int (q0 : Nat), .int (m0 : Nat)] ∧ fst (fun e => m0.testBit e) (w q0) = some (q, y) ∧ ∀ n, Caps.get cc n = Caps.get (y ++ cold) n
theorem get_twice (y c : Caps) (n : Name) : Caps.get (y ++ (y ++ c)) n = Caps.get (y ++ c) n := by
  rw [Ways.get_append, Ways.get_append]
  cases Caps.get y n with
  | none => rfl
  | some x => rfl
theorem get_congr {c c' : Caps} (h : ∀ n, Caps.get c n = Caps.get c' n) (y : Caps) (n : Name) : Caps.get (y ++ c) n = Caps.get (y ++ c') n := by
  rw [Ways.get_append, Ways.get_append, h n]
abbrev nmPF : List Str := ["self", "place", "targets", "captures", "times", "last", "wanted"]
theorem scPF : FnScope nmPF psFo (defScope (sPN 4)) := ⟨rfl, rfl, rfl, by decide +kernel, rfl, by decide +kernel, by decide +kernel⟩
theorem ok_pf {f : Addr} {fd : FuncData} (F : Fun K "follow" "Repetition.follow" (sPN 4) f fd) (T : TxN K cs) (MW : MOk P w K mg base CX0 cs.p 4 "wanted_next" ["self", "times", "place", "targets"] (spWn cs)) (d L : Nat) (hL : 6 ≤ L) (MM : ∀ τ, MOk P w K mg base CX0 (cs.tag τ) L "follow" psFo (spFo K cs d τ)) : FnOk P w K mg base CX0 (L + 1) f fd psFo (spFo K cs (d + 1) .p) := by
  obtain ⟨f1, fd1, m1, b1, G1⟩ := MW
  refine F.ok scPF (fun vs H Q E h => fo_len h) (fun cdv A outer s H vs Q E hr h => ⟨_, pss_cons (ps_set (i := 4) scPF.nd rfl (.inl rfl) pe_int)
      (pss_cons (ps_set (i := 5) scPF.nd rfl (.inl rfl) pe_non)
      (pss_cons (ps_set (i := 6) scPF.nd rfl (.inl rfl) (pe_meth (pv 0) T.clp m1 G1 (hr.mono (by omega)) b1 .nil pass0 (by exact (pa_cons (pv 4) (pa_cons (pv 1) (pa_cons (pv 2) pa_nil))))))
      (pss_cons (ps_while PassesOwn.never (pt_truth (pv 6) (by intro _; rfl))
        (pss_cons (ps_if (pt_cmpR (op_neD (hu64 hr)) (pv 5) (pe_tup (pa_cons (pv 1) (pa_cons (pv 6) pa_nil))) (nomark _))
            (pss_cons (ps_set (i := 5) scPF.nd rfl (.inl rfl) (pe_tup (pa_cons (pv 1) (pa_cons (pv 6) pa_nil))))
            (pss_one (ps_set (i := 1) scPF.nd rfl (.inl rfl) (pe_poly MM T hr (pe_fld (pv 0) rfl) (by exact (pa_cons (pv 1) (pa_cons (pv 6) (pa_cons (pv 3) pa_nil)))))))) pss_nil)
        (pss_cons (ps_aug (i := 4) scPF.nd rfl (.inl rfl) pe_int in_add)
        (pss_one (ps_set (i := 6) scPF.nd rfl (.inl rfl) (pe_meth (pv 0) T.clp m1 G1 (hr.mono (by omega)) b1 .nil pass0 (by exact (pa_cons (pv 4) (pa_cons (pv 1) (pa_cons (pv 2) pa_nil))))))))))
      (pss_one (ps_ret (pv 1)))))), ?_⟩)
  unfold spFo at h
  obtain ⟨b, ac, p, TT, i, M, B, G, nm, t, ws0, c, z, rfl, hb, ht, hd, hf, hdt, hp, hz, hQ⟩ := h
  obtain ⟨dx, kd, di, wf⟩ := i
  cases kd with
  | rep cc m mo =>
    obtain ⟨hm20, hmo, j, hj, hjd, hst⟩ : m ≤ 20 ∧ (∀ k, mo = some k → m ≤ k ∧ k ≤ 20) ∧ ∃ j, M cc = some j ∧ j.d < di ∧ wf = repWF j.wf m mo := hf.fz.stat b _ hb
    obtain ⟨i', hi', rg, ra, ns, hn, _, _, haft⟩ := hdt.at
    rw [hb] at hi'
    cases hi'
    obtain ⟨rs, hra, _, _, hrl, j', hj', hrs⟩ := haft
    rw [hj] at hj'
    cases hj'
    have hkid : DT cs M B t G cc := by
      cases hdt with
      | mk h1 _ h3 =>
        rw [hb] at h1
        cases h1
        exact h3 cc (List.mem_singleton.mpr rfl)
    obtain ⟨jc, hjc, rgc, rac, nsc, hnc, lc, repc, _⟩ := hkid.at
    rw [hj] at hjc
    cases hjc
    have hfw := hf.fz.fwd _ _ hj
    have hR : RepAt cs G b cc ra j.wf t m mo := ⟨⟨dx, rg, hn⟩, ⟨tagOf j.kd, j.dx, rgc, rac, j.kd, nsc, rfl, by rw [← at_tag]; exact hnc, lc.1, repc⟩, ⟨rs, hra, hrl, fun k r e => by
      obtain ⟨ks, h1, h2⟩ := hrs k r e
      exact ⟨ks, h1.1, h2⟩⟩, hfw⟩
    have hT0 : 0 < TT := bits_pos hz
    have hz : fst (fun e => TT.testBit e) (wf t p) = some z := hz
    rw [hst] at hz
    have htl := hf.tlen
    refine ⟨_, rfl, b, dx, _, rfl, hf.same _ _ hn, nF_no (by decide +kernel) _ _ _, _, rfl, _, rfl, _, rfl, ?_⟩
    refine wn_use (k := 0) (hR.same hf.same) (fun x hx => Nat.zero_le _) hp htl hT0 fun x0 hx0 => ?_
    refine ⟨fun μ σ H' => ∃ (k q x f : Nat) (v5 : V) (wsv : List V) (acc : Caps) (y : Nat × Caps), μ = (m - k) + (t.length - q) ∧ σ = [some (.ref b), some (.int (q : Nat)), some (.int (TT : Nat)), some (.ref ac), some (.int (k : Nat)), some v5, some (.int (x : Nat))] ∧ FoAt K cs M B G nm t ac H' wsv (acc ++ c) ∧ Kept H H' ac ∧ q ≤ t.length ∧ (∀ x, mo = some x → k ≤ x) ∧ Wanted (j.wf t) m mo TT k q x ∧ (m - k) + (t.length - q) + 1 ≤ f ∧ fst (fun e => TT.testBit e) (repW (j.wf t) m mo f k q) = some y ∧ y.1 = z.1 ∧ y.2 ++ acc = z.2 ∧ LastOk K H' (j.wf t) q (acc ++ c) v5,
      ⟨_, 0, p, x0, m + t.length + 2, .non, ws0, [], z, rfl, rfl, hf, Kept.refl _ _, hp, fun x hx => Nat.zero_le _, hx0, by omega, hz, rfl, List.append_nil _, .inl rfl⟩, ?_⟩
    rintro μ σ H1 ⟨k, q, x, f, v5, wsv, acc, y, rfl, rfl, hf1, k1, hq, hk, hx, hfu, hy, hy1, hy2, hlast⟩
    refine ⟨_, rfl, _, rfl, ?_⟩
    by_cases c0 : x = 0
    · subst c0
      refine if_false_of rfl ⟨_, rfl, ?_⟩
      have ey := rep_stop (hfw t) hq hx hy
      subst ey
      have h1 : q = z.1 := hy1
      have h2 : acc = z.2 := hy2
      rw [h2] at hf1
      rw [h1]
      exact hQ H1 wsv hf1 k1
    · obtain ⟨z1, y1, f', hz1, hz1m, hz1n, hmore, hy1', rfl, hfu', hlt⟩ := rep_more (hfw t) hq hfu hx c0 hy
      have hk' : ∀ x, mo = some x → k + 1 ≤ x := fun x hx => by
        rw [hx] at hmore
        exact of_decide_eq_true hmore
      have hz1le : z1.1 ≤ t.length := (hfw t q hq z1 hz1m).2
      refine if_true_of (by rw [bne_iff_ne]; omega) ⟨fun σ' H' => ∃ (k' q' x f : Nat) (v5 : V) (wsv : List V) (acc : Caps) (y : Nat × Caps), (m - k') + (t.length - q') < (m - k) + (t.length - q) ∧ σ' = [some (.ref b), some (.int (q' : Nat)), some (.int (TT : Nat)), some (.ref ac), some (.int (k' : Nat)), some v5, some (.int (x : Nat))] ∧ FoAt K cs M B G nm t ac H' wsv (acc ++ c) ∧ Kept H H' ac ∧ q' ≤ t.length ∧ (∀ x, mo = some x → k' ≤ x) ∧ Wanted (j.wf t) m mo TT k' q' x ∧ (m - k') + (t.length - q') + 1 ≤ f ∧ fst (fun e => TT.testBit e) (repW (j.wf t) m mo f k' q') = some y ∧ y.1 = z.1 ∧ y.2 ++ acc = z.2 ∧ LastOk K H' (j.wf t) q' (acc ++ c) v5, ?_, ?_⟩
      · rintro σ' H' ⟨k', q', x, f, v5, wsv, acc, y, hlt, h⟩
        exact ⟨_, hlt, k', q', x, f, v5, wsv, acc, y, rfl, h⟩
      refine ⟨_, rfl, _, rfl, _, rfl, by show 2 ≤ sizeLine; decide, fun Tp hTp => ?_⟩
      have s2 := Same.upd (o := HO.tup [V.int (q : Nat), V.int (x : Nat)]) hTp
      have hf2 := hf1.sameH s2
      have k2 := k1.trans (Kept.of_same s2)
      have hTpT : SqT K (upd H1 Tp (.tup [V.int (q : Nat), V.int (x : Nat)])) Tp [V.int (q : Nat), V.int (x : Nat)] := SqT.of upd_same
      -- the test
      have test : ∃ dv, Dp K (upd H1 Tp (.tup [V.int (q : Nat), V.int (x : Nat)])) v5 dv ∧ SeqAt.shaped dv = true ∧ ((PyData.eqv dv (.tuple [.int (q : Nat), .int (x : Nat)]) = false) ∨ (PyData.eqv dv (.tuple [.int (q : Nat), .int (x : Nat)]) = true ∧ z1.1 = q ∧ ∃ cold, ∀ n, Caps.get (acc ++ c) n = Caps.get (z1.2 ++ cold) n)) := by
        rcases hlast with rfl | ⟨Tl, q0, m0, yl, cold, rfl, hTl, hfl, hget⟩
        · exact ⟨.none, .non, none_shaped, .inl (by simp [PyData.eqv])⟩
        · refine ⟨.tuple [.int (q0 : Nat), .int (m0 : Nat)], .tup (sqt_same hTl s2) (.cons (.int _) (.cons (.int _) .nil)), pair_shaped _ _, ?_⟩
          rw [pair_eqv]
          by_cases c1 : q0 = q
          · by_cases c2 : m0 = x
            · subst c1
              subst c2
              rw [hfl] at hz1
              cases hz1
              exact .inr ⟨by simp, rfl, cold, hget⟩
            · refine .inl ?_
              rw [decide_eq_false (p := ((m0 : Nat) : Int) = ((x : Nat) : Int)) (by omega), Bool.and_false]
          · refine .inl ?_
            rw [decide_eq_false (p := ((q0 : Nat) : Int) = ((q : Nat) : Int)) (by omega), Bool.false_and]
      obtain ⟨dv, hdv, hsv, hor⟩ := test
      refine ⟨dv, _, hdv, .tup hTpT (.cons (.int _) (.cons (.int _) .nil)), hsv, pair_shaped _ _, _, rfl, ?_⟩
      rcases hor with hev | ⟨hev, hzq, cold, hcold⟩
      · rw [hev]
        refine if_true_of rfl ?_
        refine ⟨_, rfl, _, rfl, by show 2 ≤ sizeLine; decide, fun Tn hTn => ?_⟩
        have s3 := Same.upd (o := HO.tup [V.int (q : Nat), V.int (x : Nat)]) hTn
        have hf3 := hf2.sameH s3
        have k3 := k2.trans (Kept.of_same s3)
        refine ⟨tagOf j.kd, _, rfl, b, cs.p, dx, _, _, rfl, hf3.same _ _ hn, T.clp, T.p1, pF_body, cc, j.dx, _, rfl, by rw [← at_tag]; exact hf3.same _ _ hnc, nF_no (by decide +kernel) _ _ _, _, rfl, _, rfl, _, rfl, ?_⟩
        refine fo_use hj rfl (by have hd' : di < d + 1 := hd; omega) hf3 hkid hq hz1 fun H4 ws4 hf4 k4 => ?_
        rw [← List.append_assoc] at hf4
        have kk4 := k3.trans k4
        have hlast4 : LastOk K H4 (j.wf t) z1.1 ((z1.2 ++ acc) ++ c) (.ref Tn) := .inr ⟨Tn, q, x, z1.2, acc ++ c, rfl, sqt_keptA (SqT.of upd_same) hf3.hac k4, hz1, fun n => by rw [List.append_assoc]⟩
        refine ⟨_, rfl, _, _, rfl, rfl, ?_⟩
        have ek : ((k : Nat) : Int) + 1 = ((k + 1 : Nat) : Int) := by omega
        rw [ek]
        refine ⟨_, rfl, b, dx, _, rfl, hf4.same _ _ hn, nF_no (by decide +kernel) _ _ _, _, rfl, _, rfl, _, rfl, ?_⟩
        refine wn_use (k := k + 1) (hR.same hf4.same) hk' hz1le htl hT0 fun x1 hx1 => ?_
        refine ⟨k + 1, z1.1, x1, f', _, ws4, z1.2 ++ acc, y1, hlt, rfl, hf4, kk4, hz1le, hk', hx1, hfu', hy1', hy1, ?_, hlast4⟩
        rw [← hy2]
        simp
      · rw [hev]
        refine if_false_of rfl ?_
        have hfe : ∀ n, Caps.get (acc ++ c) n = Caps.get ((z1.2 ++ acc) ++ c) n := fun n => by
          rw [List.append_assoc, get_congr hcold z1.2 n, get_twice, hcold n]
        have hf4 := hf2.alike hfe
        have kk4 := k2
        have hlast4 : LastOk K (upd H1 Tp (.tup [V.int (q : Nat), V.int (x : Nat)])) (j.wf t) z1.1 ((z1.2 ++ acc) ++ c) v5 := by
          rw [hzq]
          rcases hlast with rfl | ⟨Tl, q0, m0, yl, cold', rfl, hTl, hfl, hget⟩
          · exact .inl rfl
          · exact .inr ⟨Tl, q0, m0, yl, cold', rfl, sqt_same hTl s2, hfl, fun n => by rw [← hfe n]; exact hget n⟩
        rw [hzq] at hlast4 hy1' hfu' hlt hz1le
        refine ⟨_, rfl, _, _, rfl, rfl, ?_⟩
        have ek : ((k : Nat) : Int) + 1 = ((k + 1 : Nat) : Int) := by omega
        rw [ek]
        refine ⟨_, rfl, b, dx, _, rfl, hf4.same _ _ hn, nF_no (by decide +kernel) _ _ _, _, rfl, _, rfl, _, rfl, ?_⟩
        refine wn_use (k := k + 1) (hR.same hf4.same) hk' hz1le htl hT0 fun x1 hx1 => ?_
        refine ⟨k + 1, q, x1, f', v5, wsv, z1.2 ++ acc, y1, hlt, rfl, hf4, kk4, hz1le, hk', hx1, hfu', hy1', hy1, ?_, hlast4⟩
        rw [← hy2]
        simp
  | one ar l neg => cases ht
  | stand s0 => cases ht
  | row al bs => cases ht
  | choice al bs => cases ht
  | cap k c => cases ht
end
end Pat
end

section
namespace Pat
open PySem PySem.Spec PyProof.Rows L2
section
variable {P : Program} {w : World} {K : PySem.W.Frag} {mg : Str → Option Value} {base : Heap} {cs : Cs} {CT : Addr}
/-- a method where it stands -/
def MFun (K : PySem.W.Frag) (C : Addr) (m q : Str) (st : Stmt) (ps : List Str) : Prop := ∃ f fd, Meth K C m f ∧ Binds K fd ps [] ∧ Fun K m q st f fd
structure MeasF (K : PySem.W.Frag) (cs : Cs) : Prop where
  o : MFun K cs.o "measure" "OneValue.measure" (sON 1) ["self", "text"]
  s : MFun K cs.s "measure" "Standpoint.measure" (sSN 2) ["self", "text"]
  r : MFun K cs.r "measure" "Row.measure" (sRN 1) ["self", "text"]
  c : MFun K cs.c "measure" "Choice.measure" (sCN 1) ["self", "text"]
  p : MFun K cs.p "measure" "Repetition.measure" (sPN 1) ["self", "text"]
  k : MFun K cs.k "measure" "Capture.measure" (sKN 1) ["self", "text"]
structure FollF (K : PySem.W.Frag) (cs : Cs) : Prop where
  o : MFun K cs.o "follow" "OneValue.follow" (sON 2) psFo
  s : MFun K cs.s "follow" "Standpoint.follow" (sSN 3) psFo
  r : MFun K cs.r "follow" "Row.follow" (sRN 2) psFo
  c : MFun K cs.c "follow" "Choice.follow" (sCN 2) psFo
  p : MFun K cs.p "follow" "Repetition.follow" (sPN 4) psFo
  k : MFun K cs.k "follow" "Capture.follow" (sKN 2) psFo
theorem MOk.mono' {C : Addr} {j k : Nat} {m : Str} {ps : List Str} {sp : Sp} {CX : CXT} (h : MOk P w K mg base CX C j m ps sp) (hjk : j ≤ k) : MOk P w K mg base CX C k m ps sp := by
  obtain ⟨f, fd, h1, h2, h3⟩ := h
  exact ⟨f, fd, h1, h2, h3.mono hjk⟩
theorem MFun.ok {C : Addr} {m q : Str} {st : Stmt} {ps : List Str} {k : Nat} {sp : Sp} {CX : CXT} (h : MFun K C m q st ps) (g : ∀ f fd, Fun K m q st f fd → FnOk P w K mg base CX k f fd ps sp) : MOk P w K mg base CX C k m ps sp := by
  obtain ⟨f, fd, h1, h2, h3⟩ := h
  exact ⟨f, fd, h1, h2, g f fd h3⟩
theorem ms_none {vs : List V} {H : Hp} {Q : VK} {E : XK} {τ : Tag} (h : spMs K cs CT 0 τ vs H Q E) : False := by
  unfold spMs at h
  obtain ⟨_, _, _, _, _, _, _, _, _, _, _, _, _, _, _, h, _⟩ := h
  exact Nat.not_lt_zero _ h
theorem fo_none {vs : List V} {H : Hp} {Q : VK} {E : XK} {τ : Tag} (h : spFo K cs 0 τ vs H Q E) : False := by
  unfold spFo at h
  obtain ⟨_, _, _, _, _, _, _, _, _, _, _, _, _, _, _, _, h, _⟩ := h
  exact Nat.not_lt_zero _ h
/-- what the measures lean on -/
structure HelpM (P : Program) (w : World) (K : PySem.W.Frag) (mg : Str → Option Value) (base : Heap) (cs : Cs) (CT : Addr) : Prop where
  TN : TxN K cs
  TT : TxT K CT
  henum : mg "enumerate" = none
  hrange : mg "range" = none
  hrev : mg "reversed" = none
  hlist : mg "list" = none
  hzip : mg "zip" = none
  hlen : mg "len" = none
  hmin : mg "min" = none
  mEnd : MOk P w K mg base CX0 CT 2 "end_place" ["self"] (spEnd CT)
  gHave : GOk P w K mg base CX0 2 "have_value" ["ranges", "value"] (spHave K)
  gOnly : GOk P w K mg base CX0 2 "only" ["place"] spOnly
  gStay : GOk P w K mg base CX0 3 "staying" ["count"] spStay
  gObo : GOk P w K mg base CX0 3 "one_behind_other" ["reach", "next_reach"] (spObo K)
  gAny : GOk P w K mg base CX0 4 "any_times_onward" ["reach"] (spAny K)
  gLead : GOk P w K mg base CX0 3 "leading_to" ["targets", "reach", "places"] (spLead K)
  gSans : GOk P w K mg base CX0 2 "without" ["places", "taken"] spSans
  mMay : MOk P w K mg base CX0 cs.s 6 "may_stand" ["self", "text", "place"] (spMay cs CT)
  mOtb : MOk P w K mg base CX0 cs.p 4 "one_time_before" ["self", "times", "reach"] (spOtb K cs)
  mWn : MOk P w K mg base CX0 cs.p 4 "wanted_next" ["self", "times", "place", "targets"] (spWn cs)
theorem measure_all (F : MeasF K cs) (h : HelpM P w K mg base cs CT) : ∀ (d : Nat) (τ : Tag), MOk P w K mg base CX0 (cs.tag τ) (7 + d) "measure" ["self", "text"] (spMs K cs CT d τ)
  | 0, .o => (F.o.ok fun f fd F => (ok_om F h.TN h.TT h.henum h.mEnd h.gHave h.gOnly 0)).mono' (by decide)
  | 0, .s => F.s.ok fun f fd F => ok_sm F h.TN h.TT h.hrange h.mEnd h.gStay h.mMay 0
  | 0, .r => F.r.ok fun f fd F => F.ok scRM (fun vs H Q E h => ms_len h) fun cdv A outer s H vs Q E hr h => (ms_none h).elim
  | 0, .c => F.c.ok fun f fd F => F.ok scCM (fun vs H Q E h => ms_len h) fun cdv A outer s H vs Q E hr h => (ms_none h).elim
  | 0, .p => F.p.ok fun f fd F => F.ok scPM (fun vs H Q E h => ms_len h) fun cdv A outer s H vs Q E hr h => (ms_none h).elim
  | 0, .k => F.k.ok fun f fd F => F.ok scKM (fun vs H Q E h => ms_len h) fun cdv A outer s H vs Q E hr h => (ms_none h).elim
  | d + 1, .o => (F.o.ok fun f fd F => (ok_om F h.TN h.TT h.henum h.mEnd h.gHave h.gOnly (d + 1))).mono' (by omega)
  | d + 1, .s => (F.s.ok fun f fd F => ok_sm F h.TN h.TT h.hrange h.mEnd h.gStay h.mMay (d + 1)).mono' (by omega)
  | d + 1, .r => F.r.ok fun f fd G => ok_rm G h.TN h.TT h.hrev h.hlist h.mEnd h.gStay h.gObo d (7 + d) (by omega) (measure_all F h d)
  | d + 1, .c => F.c.ok fun f fd G => ok_cm G h.TN h.TT h.hzip h.mEnd d (7 + d) (by omega) (measure_all F h d)
  | d + 1, .p => F.p.ok fun f fd G => ok_pm G h.TN h.TT h.hrev h.hlist h.mEnd h.gStay h.gAny h.mOtb d (7 + d) (by omega) (measure_all F h d)
  | d + 1, .k => F.k.ok fun f fd G => ok_km G h.TN d (7 + d) (measure_all F h d)
theorem follow_all (F : FollF K cs) (h : HelpM P w K mg base cs CT) : ∀ (d : Nat) (τ : Tag), MOk P w K mg base CX0 (cs.tag τ) (6 + d) "follow" psFo (spFo K cs d τ)
  | 0, .o => (F.o.ok fun f fd F => (ok_of F 0)).mono' (by decide)
  | 0, .s => (F.s.ok fun f fd F => ok_sf F 0).mono' (by decide)
  | 0, .r => F.r.ok fun f fd F => F.ok scRF (fun vs H Q E h => fo_len h) fun cdv A outer s H vs Q E hr h => (fo_none h).elim
  | 0, .c => F.c.ok fun f fd F => F.ok scCF (fun vs H Q E h => fo_len h) fun cdv A outer s H vs Q E hr h => (fo_none h).elim
  | 0, .p => F.p.ok fun f fd F => F.ok scPF (fun vs H Q E h => fo_len h) fun cdv A outer s H vs Q E hr h => (fo_none h).elim
  | 0, .k => F.k.ok fun f fd F => F.ok scKF (fun vs H Q E h => fo_len h) fun cdv A outer s H vs Q E hr h => (fo_none h).elim
  | d + 1, .o => (F.o.ok fun f fd F => (ok_of F (d + 1))).mono' (by omega)
  | d + 1, .s => (F.s.ok fun f fd F => ok_sf F (d + 1)).mono' (by omega)
  | d + 1, .r => F.r.ok fun f fd G => ok_rf' G h.TN h.henum h.gLead d (6 + d) (by omega) (follow_all F h d)
  | d + 1, .c => F.c.ok fun f fd G => ok_cf G h.TN d (6 + d) (follow_all F h d)
  | d + 1, .p => F.p.ok fun f fd G => ok_pf G h.TN h.mWn d (6 + d) (by omega) (follow_all F h d)
  | d + 1, .k => F.k.ok fun f fd G => ok_kf G h.TN d (6 + d) (follow_all F h d)
end
end Pat
end

section
namespace Pat
open PySem PySem.Spec PyProof.Rows L2
open PatWords (Name Caps)
open PatUtf (Fault)
open PySem.FaultX (FaultTxt)
open PySem.RefX (RefTxt)
open Ways (WF FwdW FitsW FitAll oneWF seqsWF altsWF repWF capWF Reach fst repW Val)
/-! ### a search -/
structure TxSr (K : PySem.W.Frag) (CS : Addr) : Prop where
  cl : Cls K CS
  n1 : NoAttr K CS "pattern"
  n2 : NoAttr K CS "text"
abbrev sS (j : Nat) : Stmt := inClass (top i_Search) j
abbrev sPat0 : Stmt := inClass (top i_Pattern) 0
structure SrW where
  sr : Addr
  dxs : Addr
  pp : Addr
  dxp : Addr
  an : Addr
  b : Addr
  tx : Addr
  dxt : Addr
  asc : Addr
  afb : Addr
  ts : List Addr
  M : PM
  G : Hp
/-- the search x, of a pattern that has been measured -/
structure SrAt (K : PySem.W.Frag) (cs : Cs) (CS CP CT : Addr) (H : Hp) (x : SrW) (pt : PatWords.Pat) (ns : List (Nat × Name)) (t : List Nat) (g : List UInt8) : Prop where
  same : Same x.G H
  at_ : x.G x.sr = some (.ins CS x.dxs [("pattern", .ref x.pp), ("text", .ref x.tx)])
  pa : x.G x.pp = some (.ins CP x.dxp [("names", .ref x.an), ("body", .ref x.b)])
  nl : x.G x.an = some (.lst (x.ts.map V.ref))
  nm : Nms K x.G x.ts ns
  ok : ∀ y ∈ ns, NmOk g y
  nlen : ns.length ≤ 16
  nmd : (ns.map (·.2)).Nodup
  txt : TxtAt CT x.G x.tx x.dxt x.asc x.afb t (fbOf t)
  fz : Fz K cs x.M x.G (ns.map (·.2))
  dt : DT cs x.M (fun _ => False) t x.G x.b
  fit : Fits x.M x.b pt 195
  val : Val t
theorem SrAt.sameH {K : PySem.W.Frag} {cs : Cs} {CS CP CT : Addr} {H H' : Hp} {x : SrW} {pt : PatWords.Pat} {ns : List (Nat × Name)} {t : List Nat} {g : List UInt8} (h : SrAt K cs CS CP CT H x pt ns t g) (s : Same H H') : SrAt K cs CS CP CT H' x pt ns t g := { h with same := Same.trans h.same s }
theorem sF_pat {pp tx : Addr} : List.lookup ("pattern" : Str) [(("pattern" : Str), V.ref pp), (("text" : Str), V.ref tx)] = some (.ref pp) := lk_here
theorem sF_txt {pp tx : Addr} : List.lookup ("text" : Str) [(("pattern" : Str), V.ref pp), (("text" : Str), V.ref tx)] = some (.ref tx) := (lk_past (by decide +kernel)).trans lk_here
theorem sF_no {m : Str} {pp tx : Addr} (h : (m == ("pattern" : Str)) = false ∧ (m == ("text" : Str)) = false) : List.lookup m [(("pattern" : Str), V.ref pp), (("text" : Str), V.ref tx)] = none := (lk_past h.1).trans ((lk_past h.2).trans rfl)
theorem pF_names {an b : Addr} : List.lookup ("names" : Str) [(("names" : Str), V.ref an), (("body" : Str), V.ref b)] = some (.ref an) := lk_here
theorem pF_bodyP {an b : Addr} : List.lookup ("body" : Str) [(("names" : Str), V.ref an), (("body" : Str), V.ref b)] = some (.ref b) := (lk_past (by decide +kernel)).trans lk_here
/-- what is frozen but the parts -/
def noParts (M : PM) (F : Hp) : Hp := fun x => match M x with
  | none => F x
  | some _ => none
section
variable {K : PySem.W.Frag} {cs : Cs} {M : PM} {F H : Hp} {nm : List Name}
theorem np_keep (h : Wd K cs M F nm) {x : Addr} {o : HO} (e : F x = some o) (hn : ∀ C d fs, o ≠ .ins C d fs) : noParts M F x = some o := by
  unfold noParts
  cases em : M x with
  | none => exact e
  | some i =>
    obtain ⟨⟨rg, ra, h1⟩, _⟩ := h.node x i em
    rw [e] at h1
    exact absurd (Option.some.inj h1) (hn _ _ _)
theorem np_tup (h : Wd K cs M F nm) {t : Addr} {xs : List V} (e : SqT K F t xs) : SqT K (noParts M F) t xs := by
  rcases e with (e | ⟨o, e⟩) | e
  · exact .inl (.inl (np_keep h e (fun _ _ _ z => nomatch z)))
  · exact .inl (.inr ⟨o, np_keep h e (fun _ _ _ z => nomatch z)⟩)
  · exact .inr e
theorem np_ms (h : Wd K cs M F nm) : Ms K cs M (noParts M F) nm where
  aux := fun b i e => by
    have := (h.node b i e).2
    revert this
    cases i.kd with
    | one ar l neg =>
      rintro ⟨ts, h1, h2⟩
      exact ⟨ts, np_keep h h1 (fun _ _ _ z => nomatch z), Tups.map (fun _ _ e => np_tup h e) h2⟩
    | row al bs => exact fun h1 => np_keep h h1 (fun _ _ _ z => nomatch z)
    | choice al bs => exact fun h1 => np_keep h h1 (fun _ _ _ z => nomatch z)
    | stand z => exact id
    | rep b m n => exact id
    | cap k b => exact id
  stat := h.stat
  fwd := h.fwd
  out := fun b i e => by
    unfold noParts
    rw [e]
theorem np_same (s : Same F H) : Same (noParts M F) H := fun b o e => by
  unfold noParts at e
  split at e
  · exact s _ _ e
  · cases e
end
section
variable {P : Program} {w : World} {K : PySem.W.Frag} {mg : Str → Option Value} {base : Heap} {cs : Cs} {CS CP CT CF CX fI fX : Addr} {H : Hp} {Q : VK} {E : XK}
@[irreducible] def spSInit (K : PySem.W.Frag) (cs : Cs) (CS CP CT : Addr) : Sp := fun vs H Q _ => ∃ (sr dxs pp dxp an b : Addr) (ts : List Addr) (M : PM) (F : Hp) (pt : PatWords.Pat) (ns : List (Nat × Name)) (g : List UInt8) (tx dxt asc afb : Addr) (t : List Nat), vs = [.ref sr, .ref pp, .ref tx] ∧ H sr = some (.ins CS dxs []) ∧ PatAt K cs CP H pp dxp an b ts M F pt ns g ∧ TxtAt CT H tx dxt asc afb t (fbOf t) ∧ F sr = none ∧ F tx = none ∧ Val t ∧
  ∀ H' x, x.sr = sr → SrAt K cs CS CP CT H' x pt ns t g → (∀ a xs, SqL K H a xs → SqL K H' a xs) → Q .non H'
theorem sinit_use {sr dxs pp dxp an b : Addr} {ts : List Addr} {M : PM} {F : Hp} {pt : PatWords.Pat} {ns : List (Nat × Name)} {g : List UInt8} {tx dxt asc afb : Addr} {t : List Nat} (h1 : H sr = some (.ins CS dxs [])) (h2 : PatAt K cs CP H pp dxp an b ts M F pt ns g) (h3 : TxtAt CT H tx dxt asc afb t (fbOf t)) (h4 : F sr = none) (h5 : F tx = none) (h6 : Val t)
    (r : ∀ H' x, x.sr = sr → SrAt K cs CS CP CT H' x pt ns t g → (∀ a xs, SqL K H a xs → SqL K H' a xs) → Q .non H') : spSInit K cs CS CP CT [.ref sr, .ref pp, .ref tx] H Q E := by
  unfold spSInit
  exact ⟨sr, dxs, pp, dxp, an, b, ts, M, F, pt, ns, g, tx, dxt, asc, afb, t, rfl, h1, h2, h3, h4, h5, h6, r⟩
theorem scSr : FnScope ["self", "pattern", "text"] ["self", "pattern", "text"] (defScope (sS 0)) := ⟨rfl, rfl, rfl, by decide +kernel, rfl, by decide +kernel, by decide +kernel⟩
theorem ok_sinit {f : Addr} {fd : FuncData} (F : Fun K "__init__" "Search.__init__" (sS 0) f fd) (T : TxSr K CS) (TP : TxP K CP) (TN : TxN K cs) (MM : ∀ τ, MOk P w K mg base CX0 (cs.tag τ) 203 "measure" ["self", "text"] (spMs K cs CT 196 τ)) : FnOk P w K mg base CX0 204 f fd ["self", "pattern", "text"] (spSInit K cs CS CP CT) := by
  refine F.ok scSr (fun vs H Q E h => ?_) (fun cdv A outer s H vs Q E hr h => ⟨_, pss_cons (ps_fld (pv 0) (pv 1) rfl) (pss_cons (ps_fld (pv 0) (pv 2) rfl)
      (pss_one (ps_expr (pe_poly MM TN hr (pe_fld (pe_fld (pv 0) rfl) rfl) (by exact (pa_cons (pv 2) pa_nil)))))), ?_⟩)
  · unfold spSInit at h
    obtain ⟨_, _, _, _, _, _, _, _, _, _, _, _, _, _, _, _, _, rfl, _⟩ := h
    rfl
  unfold spSInit at h
  obtain ⟨sr, dxs, pp, dxp, an, b, ts, M, F0, pt, ns, g, tx, dxt, asc, afb, t, rfl, hsr, hP, hT, hFs, hFt, hV, hQ⟩ := h
  refine ⟨_, rfl, _, rfl, sr, CS, dxs, _, rfl, hsr, T.cl, T.n1, by show 0 < 1000; decide, ?_⟩
  refine ⟨_, rfl, _, rfl, sr, CS, dxs, _, rfl, upd_same, T.cl, T.n2, by show 1 < 1000; decide, ?_⟩
  rw [nf1 (by decide +kernel)]
  generalize hH2 : upd (upd H sr (.ins CS dxs (putF "pattern" (.ref pp) []))) sr (.ins CS dxs [(("pattern" : Str), V.ref pp), (("text" : Str), V.ref tx)]) = H2
  have k2 : Kept H H2 sr := by rw [← hH2]; exact Kept.upd.trans Kept.upd
  have esr : H2 sr = some (.ins CS dxs [(("pattern" : Str), V.ref pp), (("text" : Str), V.ref tx)]) := by rw [← hH2]; exact upd_same
  have nps : pp ≠ sr := fun e => by
    have := hP.at_
    rw [e, hsr] at this
    cases this
  have nts : tx ≠ sr := fun e => by
    have := hT.at_
    rw [e, hsr] at this
    cases this
  have epp := k2 _ _ hP.at_ nps
  have etx := k2 _ _ hT.at_ nts
  have lk : ∀ {a : Addr} {xs : List V}, H a = some (.lst xs) → H2 a = some (.lst xs) := fun {a xs} e => k2 _ _ e (fun z => by rw [z, hsr] at e; cases e)
  have hms := np_ms hP.wd
  have sF2 : Same F0 H2 := fun a o e => k2 _ _ (hP.fz _ _ e) (fun z => by rw [z, hFs] at e; cases e)
  have hMw : Mw cs M (noParts M F0) H2 := ⟨np_same sF2, fun c i e => by
    obtain ⟨⟨rg, ra, h1⟩, _⟩ := hP.wd.node c i e
    exact ⟨rg, ra, sF2 _ _ h1⟩⟩
  have hMx : ∀ {a : Addr}, F0 a = none → M a = none := fun e => hP.wd.out e
  have hT2 : TxtM M CT H2 tx dxt asc afb t (fbOf t) := ⟨⟨etx, lk hT.sc, lk hT.fb, hT.len⟩, hMx hFt, hMw.notnode (lk hT.sc), hMw.notnode (lk hT.fb)⟩
  obtain ⟨i, hi, hid, hfw⟩ := hP.fit
  obtain ⟨rgb, rab, hnb⟩ := hMw.node b i hi
  refine ⟨tagOf i.kd, _, rfl, sr, CS, dxs, _, _, rfl, esr, T.cl, T.n1, sF_pat, pp, CP, dxp, _, _, rfl, epp, TP.cl, TP.n2, pF_bodyP, b, i.dx, _, rfl, by rw [← at_tag]; exact hnb, nF_no (by decide +kernel) _ _ _, _, rfl, ?_⟩
  refine ms_use (B := fun _ => False) hi rfl (by omega) hms hMw hT2 (fun _ h => h.elim) fun H3 m3 => ?_
  have st : ∀ {a : Addr} {o : HO}, M a = none → H2 a = some o → H3 a = some o := fun hm e => m3.k.stay hm e
  have noins : ∀ {a : Addr} {o : HO}, H2 a = some o → (∀ C d fs, o ≠ .ins C d fs) → M a = none := fun {a o} e hn => by
    cases em : M a with
    | none => rfl
    | some j =>
      obtain ⟨rg, ra, h1⟩ := hMw.node a j em
      rw [e] at h1
      exact absurd (Option.some.inj h1) (hn _ _ _)
  have tupk : ∀ u xs, SqT K H u xs → SqT K H3 u xs := fun u xs e => by
    have key : ∀ o, H u = some o → (∀ C d fs, o ≠ .ins C d fs) → H3 u = some o := fun o e hn => by
      have e2 := k2 _ _ e (fun z => by rw [z, hsr] at e; exact hn _ _ _ (Option.some.inj e).symm)
      exact st (noins e2 hn) e2
    rcases e with (e | ⟨o, e⟩) | e
    · exact .inl (.inl (key _ e (fun _ _ _ z => nomatch z)))
    · exact .inl (.inr ⟨o, key _ e (fun _ _ _ z => nomatch z)⟩)
    · exact .inr e
  have lstk : ∀ u xs, SqL K H u xs → SqL K H3 u xs := fun u xs e => by
    have key : ∀ o, H u = some o → (∀ C d fs, o ≠ .ins C d fs) → H3 u = some o := fun o e hn => by
      have e2 := k2 _ _ e (fun z => by rw [z, hsr] at e; exact hn _ _ _ (Option.some.inj e).symm)
      exact st (noins e2 hn) e2
    rcases e with (e | ⟨o, e⟩) | e
    · exact .inl (.inl (key _ e (fun _ _ _ z => nomatch z)))
    · exact .inl (.inr ⟨o, key _ e (fun _ _ _ z => nomatch z)⟩)
    · exact .inr e
  refine hQ H3 ⟨sr, dxs, pp, dxp, an, b, tx, dxt, asc, afb, ts, M, H3⟩ rfl ?_ lstk
  exact {
    same := fun _ _ h => h
    at_ := st (hMx hFs) esr
    pa := st (hMx hP.fp) epp
    nl := st (hMx hP.fn) (lk hP.nl)
    nm := Nms.map tupk hP.nm
    ok := hP.ok
    nlen := hP.nlen
    nmd := hP.nmd
    txt := (hT2.keep m3.k).tt
    fz := ⟨fun c j e => (hms.aux c j e).same m3.w.same, hms.stat, hms.fwd⟩
    dt := m3.tree
    fit := ⟨i, hi, hid, hfw⟩
    val := hV }
end
end Pat
end

section
namespace Utf
open PatUtf
theorem follow_le : ∀ (k lo hi x p : Nat) (b : Bytes) {y : Nat} {r : Bytes}, follow k lo hi x p b = .ok (y, r) → y < (x + 1) * 64 ^ k
  | 0, lo, hi, x, p, b, y, r, h => by
    unfold follow at h
    cases h
    omega
  | k + 1, lo, hi, x, p, [], y, r, h => by
    unfold follow at h
    cases h
  | k + 1, lo, hi, x, p, c :: b, y, r, h => by
    unfold follow at h
    split at h
    · have := follow_le k _ _ _ _ _ h
      have h1 : c.toNat % 64 < 64 := Nat.mod_lt _ (by decide)
      have h2 : 64 * x + c.toNat % 64 + 1 ≤ (x + 1) * 64 := by omega
      have h3 := Nat.mul_le_mul_right (64 ^ k) h2
      rw [Nat.pow_succ, Nat.mul_comm (64 ^ k) 64, ← Nat.mul_assoc]
      omega
    · cases h
theorem scalarAt_le {p : Nat} {b r : Bytes} {x : Nat} (h : scalarAt p b = .ok (x, r)) : x ≤ 1114111 := by
  cases b with
  | nil => cases h
  | cons c b =>
    unfold scalarAt at h
    dsimp only at h
    cases e : leads c.toNat with
    | none => rw [e] at h; cases h
    | some z =>
      obtain ⟨k, lo, hi⟩ := z
      rw [e] at h
      have h : follow k lo hi (firstBits k c.toNat) (p + 1) b = .ok (x, r) := h
      have hle := follow_le _ _ _ _ _ _ h
      have hc : c.toNat < 256 := c.toNat_lt
      unfold leads at e
      by_cases c1 : c.toNat < 0x80
      · rw [if_pos c1] at e
        cases e
        have : firstBits 0 c.toNat = c.toNat := rfl
        rw [this] at hle
        omega
      rw [if_neg c1] at e
      by_cases c2 : c.toNat < 0xC2
      · rw [if_pos c2] at e; cases e
      rw [if_neg c2] at e
      by_cases c3 : c.toNat < 0xE0
      · rw [if_pos c3] at e
        cases e
        have : firstBits 1 c.toNat = c.toNat % 32 := rfl
        rw [this] at hle
        have := Nat.mod_lt c.toNat (y := 32) (by decide)
        omega
      rw [if_neg c3] at e
      have three : ∀ {lo hi : Nat}, some (2, lo, hi) = some (k, lo, hi) → x < (c.toNat % 16 + 1) * 64 ^ 2 := fun e => by
        cases e
        exact hle
      by_cases c4 : c.toNat = 0xE0
      · rw [if_pos c4] at e
        cases e
        have : firstBits 2 c.toNat = c.toNat % 16 := rfl
        rw [this] at hle
        have := Nat.mod_lt c.toNat (y := 16) (by decide)
        omega
      rw [if_neg c4] at e
      by_cases c5 : c.toNat = 0xED
      · rw [if_pos c5] at e
        cases e
        have : firstBits 2 c.toNat = c.toNat % 16 := rfl
        rw [this] at hle
        have := Nat.mod_lt c.toNat (y := 16) (by decide)
        omega
      rw [if_neg c5] at e
      by_cases c6 : c.toNat < 0xF0
      · rw [if_pos c6] at e
        cases e
        have : firstBits 2 c.toNat = c.toNat % 16 := rfl
        rw [this] at hle
        have := Nat.mod_lt c.toNat (y := 16) (by decide)
        omega
      rw [if_neg c6] at e
      by_cases c7 : c.toNat = 0xF0
      · rw [if_pos c7] at e
        cases e
        have : firstBits 3 c.toNat = c.toNat % 8 := rfl
        rw [this, c7] at hle
        omega
      rw [if_neg c7] at e
      by_cases c8 : c.toNat < 0xF4
      · rw [if_pos c8] at e
        cases e
        have : firstBits 3 c.toNat = c.toNat % 8 := rfl
        rw [this] at hle
        have : c.toNat % 8 ≤ 3 := by omega
        omega
      rw [if_neg c8] at e
      by_cases c9 : c.toNat = 0xF4
      · rw [if_pos c9] at e
        cases e
        have : firstBits 3 c.toNat = 4 := by rw [c9]; rfl
        rw [this] at h
        cases b with
        | nil => cases h
        | cons d b =>
          unfold follow at h
          split at h
          · rename_i hd
            have h2 := follow_le _ _ _ _ _ _ h
            have : d.toNat % 64 ≤ 15 := by omega
            omega
          · cases h
      · rw [if_neg c9] at e
        cases e
theorem scalarsFrom_le : ∀ (f p : Nat) (b : Bytes) {l : List Nat}, scalarsFrom f p b = .ok l → ∀ x ∈ l, x ≤ 1114111
  | 0, p, [], l, h, x, m => by
    cases h
    cases m
  | 0, p, _ :: _, l, h, x, m => by cases h
  | f + 1, p, [], l, h, x, m => by
    cases h
    cases m
  | f + 1, p, c :: b, l, h, x, m => by
    rw [scalarsFrom] at h
    · cases e : scalarAt p (c :: b) with
      | error q => rw [e] at h; cases h
      | ok y =>
        obtain ⟨v, r⟩ := y
        rw [e] at h
        dsimp only at h
        cases e2 : scalarsFrom f (p + ((c :: b).length - r.length)) r with
        | error q => rw [e2] at h; cases h
        | ok l2 =>
          rw [e2] at h
          cases h
          rcases List.mem_cons.mp m with m | m
          · rw [m]
            exact scalarAt_le e
          · exact scalarsFrom_le f _ _ e2 x m
    all_goals exact fun h => nomatch h
end Utf
namespace Pat
open PySem PySem.Spec PyProof.Rows L2
open PatWords (Name Caps)
open PatUtf (Fault)
open PySem.FaultX (FaultTxt)
open PySem.RefX (RefTxt)
open Ways (Val)
theorem PatAt.same {K : PySem.W.Frag} {cs : Cs} {CP : Addr} {H H' : Hp} {pp dxp an b : Addr} {ts : List Addr} {M : PM} {F : Hp} {pt : PatWords.Pat} {ns : List (Nat × Name)} {g : List UInt8} (h : PatAt K cs CP H pp dxp an b ts M F pt ns g) (s : Same H H') : PatAt K cs CP H' pp dxp an b ts M F pt ns g :=
  { h with at_ := s _ _ h.at_, nl := s _ _ h.nl, nm := Nms.map (fun _ _ e => sqt_same e s) h.nm, fz := Same.trans h.fz s }
/-- a refusal's way out -/
def OutR (CX : Addr) (l : List Int) (E : XK) : Prop := ∀ (d : Addr) (H' : Hp) (q : Addr), H' d = some (.xd (refF (.ref q))) → H' q = some (.lst (l.map V.int)) → E (.ref CX) (some d) H'
section
variable {P : Program} {w : World} {K : PySem.W.Frag} {mg : Str → Option Value} {base : Heap} {cs : Cs} {CS CP CT CF CX fI fX : Addr} {H : Hp} {Q : VK} {E : XK}
theorem NOkS {C : Addr} {k : Nat} {x : Str} {ps : List Str} {sp : Sp} (h : NOk P w K mg base C k x ps sp) : NOk P w K mg base C k x ps sp := h
/-- a class whose __init__ may raise -/
def NOkX (P : Program) (w : World) (K : PySem.W.Frag) (mg : Str → Option Value) (base : Heap) (CX : CXT) (C : Addr) (k : Nat) (x : Str) (ps : List Str) (sp : Sp) : Prop :=
  ∃ f fd, Mk K C f ∧ mg x = some (.ref C) ∧ Binds K fd ps [] ∧ FnOk P w K mg base CX k f fd ps sp
theorem tinit_use {tx dxt ag : Addr} {g : List UInt8} {F : Hp} (h1 : H tx = some (.ins CT dxt [])) (h2 : SqL K H ag (gv g)) (h3 : g.length ≤ 128) (h4 : Same F H) (h5 : F tx = none) (h6 : SqL K F ag (gv g))
    (r : match PatUtf.scalars 0 g with
      | .error _ => ∀ e : Fault, Out CF e E
      | .ok t => ∀ H' asc afb, TxtAt CT H' tx dxt asc afb t (fbOf t) → Kept H H' tx → Q .non H') : spTInit K CT CF [.ref tx, .ref ag] H Q E := by
  unfold spTInit
  exact ⟨tx, dxt, ag, g, rfl, h1, h2, h3, ⟨F, h4, h5, h6⟩, r⟩
/-! ### search_of -/
@[irreducible] def spSO (K : PySem.W.Frag) (cs : Cs) (CS CP CT CX : Addr) : Sp := fun vs H Q E => ∃ (ap at_ : Addr) (g u : List UInt8), vs = [.ref ap, .ref at_] ∧ SqL K H ap (gv g) ∧ SqL K H at_ (gv u) ∧
  if 128 < g.length ∨ 128 < u.length then OutR CX [-2] E else match PatWords.read g, PatUtf.scalars 0 u with
    | .ok (pt, ns), .ok t => ∀ H' x, SrAt K cs CS CP CT H' x pt ns t g → (∀ a xs, SqL K H a xs → SqL K H' a xs) → Q (.ref x.sr) H'
    | _, _ => OutR CX [-6] E
theorem so_use {ap at_ : Addr} {g u : List UInt8} (h1 : SqL K H ap (gv g)) (h2 : SqL K H at_ (gv u)) (r : if 128 < g.length ∨ 128 < u.length then OutR CX [-2] E else match PatWords.read g, PatUtf.scalars 0 u with
    | .ok (pt, ns), .ok t => ∀ H' x, SrAt K cs CS CP CT H' x pt ns t g → (∀ a xs, SqL K H a xs → SqL K H' a xs) → Q (.ref x.sr) H'
    | _, _ => OutR CX [-6] E) : spSO K cs CS CP CT CX [.ref ap, .ref at_] H Q E := by
  unfold spSO
  exact ⟨ap, at_, g, u, rfl, h1, h2, r⟩
abbrev sSO : Stmt := top i_search_of
theorem scSO : FnScope ["p", "t"] ["p", "t"] (defScope sSO) := ⟨rfl, rfl, rfl, by decide +kernel, rfl, by decide +kernel, by decide +kernel⟩
theorem ok_so {f : Addr} {fd : FuncData} (F : Fun K "search_of" "search_of" sSO f fd) (hlen : mg "len" = none) (FT : FaultTxt K mg CF fI) (RT : RefTxt K mg CX fX) (k128 : ∃ t, mg "LONGEST" = some (.int 128 t)) (k2 : ∃ t, mg "TOO_LONG" = some (.int (-2) t)) (k6 : ∃ t, mg "NOT_IN_FORM" = some (.int (-6) t))
    (G1 : GOk P w K mg base (L2N.CX P w) 10 "read_pattern" ["given"] (spRead K CF CP cs)) (NT : NOkX P w K mg base (L2N.CX P w) CT 4 "Text" ["self", "given"] (spTInit K CT CF)) (NS : NOk P w K mg base CS 204 "Search" ["self", "pattern", "text"] (spSInit K cs CS CP CT)) :
    FnOk P w K mg base (L2.CX P w) 206 f fd ["p", "t"] (spSO K cs CS CP CT CX) := by
  obtain ⟨f1, fd1, gg1, kp1, b1, G1⟩ := G1
  obtain ⟨fT, fdT, MT, gT, bT, GT⟩ := NT
  obtain ⟨fS, fdS, MS, gS, bS, GS⟩ := NS
  refine F.okX scSO (fun vs H Q E h => ?_) (fun cdv A outer s H vs Q E hr h => ⟨_, pss_cons (ps_if (PW.pt (pw_or (pt_cmpR op_gt (pe_callB call_len_seq (by rfl) hlen PySem.boot_len (pa_cons (pv 0) pa_nil)) (pe_gi k128) (nomark _)) (pw_or1 (pt_cmpR op_gt (pe_callB call_len_seq (by rfl) hlen PySem.boot_len (pa_cons (pv 1) pa_nil)) (pe_gi k128) (nomark _)))))
        (pss_one (ps_raiseRef rfl RT hr (takes_of rfl rfl rfl rfl) (by exact (pa_cons (pe_lst (pa_cons (pe_gi k2) pa_nil)) pa_nil)))) pss_nil)
      (pss_one (L2H.ps_try_onlyX (tb := fun W => tRet (tMake CS (spSInit K cs CS CP CT) [] E0 (tCons (tCallS (spRead K CF CP cs) (WE W) (tCons (tVar 0) tNil)) (tCons (tMake CT (spTInit K CT CF) [] (fun cls d H => ∀ σ, W cls d σ H) (tCons (tVar 1) tNil)) tNil))))
          (ts := fun _ _ _ => fun _ σ H => tMkRef CX (tCons (tLst (tCons (tC (.int (-6))) tNil)) tNil) σ H fun cls d H' => E cls d H') (Wout := fun cls d _ H => E cls d H) rfl rfl ⟨rfl, by decide, Or.inl FT.gC⟩ (fun hd => L2H.passesAt_of rfl hd) (takes_of rfl rfl rfl rfl)
          (fun W pn xe tk tk2 _ => pss_one (ps_ret (by exact (pe_make MS GS hr rfl gS bS .nil pass0 (by exact (pa_cons (pe_callS G1 (hr.mono (by decide)) rfl gg1 kp1 b1 (fun σ => L2N.passAt tk σ) (by exact (pa_cons (pv 0) pa_nil)))
              (pa_cons (pe_make MT GT (hr.mono (by decide)) rfl gT bT .nil (L2N.passes_call tk (fun _ _ σ _ h => h σ)) (by exact (pa_cons (pv 1) pa_nil))) pa_nil)))))))
          (fun a oe cls d pn hz hf tk hot => pss_one (by exact (L2H.ps_raiseHN hot tk (pmk5_ref RT (L2H.roomH_mark hr _) (by exact (pa_cons (pe_lst (pa_cons (pe_gi k6) pa_nil)) pa_nil)))))))), ?_⟩)
  · unfold spSO at h
    obtain ⟨_, _, _, _, rfl, _⟩ := h
    rfl
  unfold spSO at h
  obtain ⟨ap, at_, g, u, rfl, sp, st, hQ⟩ := h
  have raise : ∀ {l : List Int} {H1 : Hp} {q d : Addr}, OutR CX l E → H1 q = none → (upd H1 q (.lst (l.map V.int))) d = none → E (.ref CX) (some d) (upd (upd H1 q (.lst (l.map V.int))) d (.xd (refF (.ref q)))) := fun {l H1 q d} ho hq hd => ho d _ q upd_same ((upd_ne (ne_of_none upd_same hd)).trans upd_same)
  refine ⟨_, rfl, ap, _, rfl, .inl sp, _, _, rfl, rfl, _, rfl, ?_⟩
  by_cases c1 : 128 < g.length
  · rw [if_pos (.inl c1)] at hQ
    exact if_true_of (decide_eq_true (by rw [gv_len]; omega)) (if_true_of rfl ⟨by show 1 ≤ sizeLine; decide, fun q hq => ⟨_, rfl, fun d hd => raise hQ hq hd⟩⟩)
  refine if_false_of (decide_eq_false (by rw [gv_len]; omega)) ⟨_, rfl, at_, _, rfl, .inl st, _, _, rfl, rfl, _, rfl, ?_⟩
  by_cases c2 : 128 < u.length
  · rw [if_pos (.inr c2)] at hQ
    exact if_true_of (decide_eq_true (by rw [gv_len]; omega)) ⟨by show 1 ≤ sizeLine; decide, fun q hq => ⟨_, rfl, fun d hd => raise hQ hq hd⟩⟩
  rw [if_neg (fun h => h.elim c1 c2)] at hQ
  refine if_false_of (decide_eq_false (by rw [gv_len]; omega)) ?_
  refine ⟨_, rfl, ?_⟩
  refine read_use sp (by omega) ?_
  cases er : PatWords.read g with
  | error e =>
    rw [er] at hQ
    have hQ' : OutR CX [-6] E := by
      revert hQ
      cases PatUtf.scalars 0 u <;> exact id
    intro d H' hd
    exact ⟨true, FT.te, fun _ a0 _ => ⟨by show 1 ≤ sizeLine; decide, fun q hq => ⟨_, rfl, fun d hd => raise hQ' hq hd⟩⟩, fun q => Bool.noConfusion q⟩
  | ok y =>
    obtain ⟨pt, ns⟩ := y
    rw [er] at hQ
    intro H1 pp dxp an b ts M F0 hP sF
    have s1 : Same H H1 := Same.trans sF hP.fz
    refine ⟨_, rfl, fun tx dxt htx hdxt hne => ?_⟩
    have s2 : Same H1 (upd (upd H1 dxt (.own tx)) tx (.ins CT dxt [])) := Same.upd' (Same.upd hdxt) htx
    have htxH : H tx = none := none_same s1 htx
    refine tinit_use upd_same (sql_same st (Same.trans s1 s2)) (by omega) (Same.trans s1 s2) htxH st ?_
    cases es : PatUtf.scalars 0 u with
    | error e =>
      rw [es] at hQ
      have hQ' : OutR CX [-6] E := hQ
      intro e d H' hd σ
      exact ⟨true, FT.te, fun _ a0 _ => ⟨by show 1 ≤ sizeLine; decide, fun q hq => ⟨_, rfl, fun d hd => raise hQ' hq hd⟩⟩, fun q => Bool.noConfusion q⟩
    | ok t =>
      rw [es] at hQ
      have hQ' : ∀ H' x, SrAt K cs CS CP CT H' x pt ns t g → (∀ a xs, SqL K H a xs → SqL K H' a xs) → Q (.ref x.sr) H' := hQ
      intro H2 asc afb hT k2
      refine ⟨rfl, ?_⟩
      have s3 : Same H1 H2 := fun a o e => k2 _ _ (s2 _ _ e) (ne_of_none e htx)
      intro x dxs hx hdxs hne2
      have s4 : Same H2 (upd (upd H2 dxs (.own x)) x (.ins CS dxs [])) := Same.upd' (Same.upd hdxs) hx
      have hv : Val t := fun y m => Utf.scalarsFrom_le _ _ _ (show PatUtf.scalarsFrom u.length 0 u = .ok t from es) y m
      refine sinit_use upd_same ((hP.same s3).same s4) (hT.same s4) (none_same (Same.trans hP.fz s3) hx) (none_same hP.fz htx) hv fun H3 y hy hS hl => ⟨rfl, ?_⟩
      rw [← hy]
      exact hQ' H3 y hS fun a xs e => hl a xs (sql_same e (Same.trans (Same.trans s1 s3) s4))
end
end Pat
end

section
namespace Ways
open PatUtf PatWords
/-- what a way captures lies within the text -/
def CapsIn (n : Nat) (c : Caps) : Prop := ∀ y ∈ c, y.2.1 ≤ y.2.2 ∧ y.2.2 ≤ n
theorem CapsIn.append {n : Nat} {c d : Caps} (h : CapsIn n c) (k : CapsIn n d) : CapsIn n (c ++ d) := fun y m => (List.mem_append.mp m).elim (h y) (k y)
theorem repW_capsIn {w : Nat → Ends} {n m : Nat} {most : Option Nat} (hw : Fwd w n) (h : ∀ i ≤ n, ∀ z ∈ w i, CapsIn n z.2) : ∀ f k i, i ≤ n → ∀ z ∈ repW w m most f k i, CapsIn n z.2
  | 0, _, _, _, z, hz => nomatch hz
  | f + 1, k, i, hi, z, hz => by
    unfold repW at hz
    rcases List.mem_append.mp hz with hz | hz
    · split at hz
      · obtain ⟨y, hy, hz⟩ := List.mem_flatMap.mp hz
        have hy := (List.mem_filter.mp hy).1
        unfold glue at hz
        obtain ⟨x, hx, rfl⟩ := List.mem_map.mp hz
        exact (repW_capsIn hw h f (k + 1) y.1 (hw i hi y hy).2 x hx).append (h i hi y hy)
      · cases hz
    · split at hz
      · rw [List.mem_singleton.mp hz]
        exact fun y m => nomatch m
      · cases hz
theorem allW_capsIn (t : Text) : ∀ (p : Pat) (i : Nat), i ≤ t.length → ∀ z ∈ allW t p i, CapsIn t.length z.2
  | .nothing, i, hi, z, hz => by
    rw [allW] at hz
    rw [List.mem_singleton.mp hz]
    exact fun y m => nomatch m
  | .any, i, hi, z, hz => by
    rw [allW] at hz
    split at hz
    · rw [List.mem_singleton.mp hz]
      exact fun y m => nomatch m
    · cases hz
  | .cls neg l, i, hi, z, hz => by
    rw [allW] at hz
    split at hz
    · split at hz
      · rw [List.mem_singleton.mp hz]
        exact fun y m => nomatch m
      · cases hz
    · cases hz
  | .first, i, hi, z, hz => by
    rw [allW] at hz
    split at hz
    · rw [List.mem_singleton.mp hz]
      exact fun y m => nomatch m
    · cases hz
  | .last, i, hi, z, hz => by
    rw [allW] at hz
    split at hz
    · rw [List.mem_singleton.mp hz]
      exact fun y m => nomatch m
    · cases hz
  | .edge, i, hi, z, hz => by
    rw [allW] at hz
    split at hz
    · rw [List.mem_singleton.mp hz]
      exact fun y m => nomatch m
    · cases hz
  | .seq a b, i, hi, z, hz => by
    rw [allW] at hz
    obtain ⟨y, hy, hz⟩ := List.mem_flatMap.mp hz
    unfold glue at hz
    obtain ⟨x, hx, rfl⟩ := List.mem_map.mp hz
    exact (allW_capsIn t b y.1 (allW_fwd t a i hi y hy).2 x hx).append (allW_capsIn t a i hi y hy)
  | .alt a b, i, hi, z, hz => by
    rw [allW] at hz
    rcases List.mem_append.mp hz with h | h
    · exact allW_capsIn t a i hi z h
    · exact allW_capsIn t b i hi z h
  | .rep a m n, i, hi, z, hz => by
    rw [allW] at hz
    exact repW_capsIn (allW_fwd t a) (fun j hj => allW_capsIn t a j hj) _ _ _ hi z hz
  | .cap n a, i, hi, z, hz => by
    rw [allW] at hz
    obtain ⟨y, hy, rfl⟩ := List.mem_map.mp hz
    obtain ⟨h1, h2⟩ := allW_fwd t a i hi y hy
    intro x m
    rcases List.mem_cons.mp m with m | m
    · rw [m]
      exact ⟨h1, h2⟩
    · exact allW_capsIn t a i hi y hy x m
theorem get_in {n : Nat} {c : Caps} (h : CapsIn n c) {m : Name} {x : Nat × Nat} (e : Caps.get c m = some x) : x.1 ≤ x.2 ∧ x.2 ≤ n := by
  unfold Caps.get at e
  cases ef : c.find? (fun (x : Name × Nat × Nat) => x.1 == m) with
  | none => rw [ef] at e; cases e
  | some y =>
    rw [ef] at e
    cases e
    exact h y (List.mem_of_find?_eq_some ef)
end Ways
namespace Pat
open PySem PySem.Spec PyProof.Rows L2
open PatWords (Name Caps)
open Ways (WF FwdW FitsW FitAll oneWF seqsWF altsWF repWF capWF Reach fst repW Val CapsIn)
theorem one_bit (j e : Nat) : (2 ^ j).testBit e = (e == j) := by
  rw [Nat.testBit_two_pow]
  by_cases c : j = e
  · rw [decide_eq_true c, c]
    simp
  · rw [decide_eq_false c]
    symm
    rw [beq_eq_false_iff_ne]
    exact fun h => c h.symm
/-- the first way to an end, of parts that are alike -/
theorem way_alike {wf : WF} {pt : PatWords.Pat} {t : List Nat} {i j : Nat} {c : Caps} (hf : FitsW wf pt) (hv : Val t) (hi : i ≤ t.length) (h : (Ways.allW t pt i).find? (fun z => z.1 == j) = some (j, c)) :
    ∃ y, fst (fun e => (2 ^ j).testBit e) (wf t i) = some (j, y) ∧ ∀ n, Caps.get y n = Caps.get c n := by
  have e := hf t hv i hi (fun e => (2 ^ j).testBit e)
  have e2 : fst (fun e => (2 ^ j).testBit e) (Ways.allW t pt i) = some (j, c) := by
    rw [← h]
    exact fst_congr (T' := fun e => e == j) fun z _ => one_bit j z.1
  rw [e2] at e
  cases e3 : fst (fun e => (2 ^ j).testBit e) (wf t i) with
  | none => rw [e3] at e; cases e
  | some z =>
    rw [e3] at e
    have e : Ways.nrm z = Ways.nrm (j, c) := Option.some.inj e
    have h1 : z.1 = j := Ways.nrm_1 e
    refine ⟨z.2, by rw [← h1], fun n => congrFun (Ways.nrm_2 e) n⟩
theorem fb_at {t : List Nat} {i : Nat} (h : i ≤ t.length) : (fbOf t)[i]? = some (PatSpec.byteAt t i) := by
  unfold fbOf
  rw [List.getElem?_map, List.getElem?_range (by omega)]
  rfl
section
variable {P : Program} {w : World} {K : PySem.W.Frag} {mg : Str → Option Value} {base : Heap} {cs : Cs} {CS CP CT CF CX fI fX : Addr} {H : Hp} {Q : VK} {E : XK}
@[irreducible] def spCaps (K : PySem.W.Frag) (cs : Cs) (CS CP CT : Addr) : Sp := fun vs H Q _ => ∃ (x : SrW) (pt : PatWords.Pat) (ns : List (Nat × Name)) (t : List Nat) (g : List UInt8) (i j : Nat) (c : Caps), vs = [.ref x.sr, .int (i : Nat), .int (j : Nat)] ∧ SrAt K cs CS CP CT H x pt ns t g ∧ i ≤ t.length ∧ j ≤ t.length ∧ (Ways.allW t pt i).find? (fun z => z.1 == j) = some (j, c) ∧
  ∀ H' p, Same H H' → H p = none → H' p = some (.lst ((PatSpec.capsOf t ns c).map V.int)) → Q (.ref p) H'
theorem caps_use {x : SrW} {pt : PatWords.Pat} {ns : List (Nat × Name)} {t : List Nat} {g : List UInt8} {i j : Nat} {c : Caps} (h : SrAt K cs CS CP CT H x pt ns t g) (hi : i ≤ t.length) (hj : j ≤ t.length) (hc : (Ways.allW t pt i).find? (fun z => z.1 == j) = some (j, c))
    (r : ∀ H' p, Same H H' → H p = none → H' p = some (.lst ((PatSpec.capsOf t ns c).map V.int)) → Q (.ref p) H') : spCaps K cs CS CP CT [.ref x.sr, .int (i : Nat), .int (j : Nat)] H Q E := by
  unfold spCaps
  exact ⟨x, pt, ns, t, g, i, j, c, rfl, h, hi, hj, hc, r⟩
abbrev nmCaps : List Str := ["self", "begin", "end", "captured", "answer", "span"]
theorem scCaps : FnScope nmCaps ["self", "begin", "end"] (defScope (sS 5)) := ⟨rfl, rfl, rfl, by decide +kernel, rfl, by decide +kernel, by decide +kernel⟩
theorem capsOf_snoc {t : List Nat} {ns : List (Nat × Name)} {n : Nat × Name} {c : Caps} : PatSpec.capsOf t (ns ++ [n]) c = PatSpec.capsOf t ns c ++ (match Caps.get c n.2 with
    | some x => PatSpec.spanOf t x
    | none => [-1, -1]) := by
  unfold PatSpec.capsOf
  rw [List.flatMap_append, List.flatMap_cons, List.flatMap_nil, List.append_nil]
  rfl
theorem capsOf_len {t : List Nat} {ns : List (Nat × Name)} {c : Caps} : (PatSpec.capsOf t ns c).length = 2 * ns.length := by
  induction ns with
  | nil => rfl
  | cons n ns ih =>
    have : PatSpec.capsOf t (n :: ns) c = (match Caps.get c n.2 with
      | some x => PatSpec.spanOf t x
      | none => [-1, -1]) ++ PatSpec.capsOf t ns c := by
      unfold PatSpec.capsOf
      rw [List.flatMap_cons]
      rfl
    rw [this, List.length_append, ih, List.length_cons]
    cases Caps.get c n.2 with
    | none => show 2 + _ = _; omega
    | some x => show 2 + _ = _; omega
theorem ok_caps {f : Addr} {fd : FuncData} (F : Fun K "captures" "Search.captures" (sS 5) f fd) (T : TxSr K CS) (TP : TxP K CP) (TN : TxN K cs) (TT : TxT K CT) (hlen : mg "len" = none) (GO : GOk P w K mg base CX0 2 "only" ["place"] spOnly) (MI : MOk P w K mg base CX0 CT 2 "in_bytes" ["self", "begin", "end"] (spInB CT))
    (MF : ∀ τ, MOk P w K mg base CX0 (cs.tag τ) 202 "follow" psFo (spFo K cs 196 τ)) : FnOk P w K mg base CX0 203 f fd ["self", "begin", "end"] (spCaps K cs CS CP CT) := by
  obtain ⟨f1, fd1, gg1, k1, b1, G1⟩ := GO
  obtain ⟨f2, fd2, m2, b2, G2⟩ := MI
  refine F.ok scCaps (fun vs H Q E h => ?_) (fun cdv A outer s H vs Q E hr h => ⟨_, pss_cons (ps_set (i := 3) scCaps.nd rfl (.inl rfl) (pe_op op_rep (pe_lst (pa_cons pe_non pa_nil)) (pe_callB call_len_seq (by rfl) hlen PySem.boot_len (by exact (pa_cons (pe_fld (pe_fld (pv 0) rfl) rfl) pa_nil)))))
      (pss_cons (ps_expr (pe_poly MF TN hr (pe_fld (pe_fld (pv 0) rfl) rfl) (by exact (pa_cons (pv 1) (pa_cons (pe_call G1 (hr.mono (by decide)) rfl gg1 k1 b1 .nil pass0 (by exact (pa_cons (pv 2) pa_nil))) (pa_cons (pv 3) pa_nil))))))
      (pss_cons (ps_set (i := 4) scCaps.nd rfl (.inl rfl) (pe_lst pa_nil))
      (pss_cons (ps_for PassesOwn.never rfl (pi_list (pv 3)) (pg_name (i := 5) scCaps.nd rfl (Or.inl rfl))
        (pss_one (ps_if (pt_cmpR op_isN (pv 5) pe_non (nomark _))
          (pss_one (ps_expr (pe_bm PySem.F.plainAttrs_list PySem.F.slot_list_extend PySem.F.type_list_extend mt_extend (pv 4) (by exact (pa_cons (pe_lst (pa_cons (pe_un un_neg pe_int) (pa_cons (pe_un un_neg pe_int) pa_nil))) pa_nil)))))
          (pss_one (ps_expr (pe_bm PySem.F.plainAttrs_list PySem.F.slot_list_extend PySem.F.type_list_extend mt_extend (pv 4) (by exact (pa_cons (pe_meth (pe_fld (pv 0) rfl) TT.cl m2 G2 (hr.mono (by decide)) b2 .nil pass0 (by exact (pa_cons (pe_ix ix_tup (pv 5) pe_int (fun _ _ => rfl)) (pa_cons (pe_ix ix_tup (pv 5) pe_int (fun _ _ => rfl)) pa_nil)))) pa_nil))))))))
      (pss_one (ps_ret (pv 4)))))), ?_⟩)
  · unfold spCaps at h
    obtain ⟨_, _, _, _, _, _, _, _, rfl, _⟩ := h
    rfl
  unfold spCaps at h
  obtain ⟨x, pt, ns, t, g, i, j, c, rfl, h, hi, hj, hc, hQ⟩ := h
  obtain ⟨ib, hib, hibd, hfw⟩ := h.fit
  obtain ⟨y, hy, hget⟩ := way_alike hfw h.val hi hc
  have hcin : CapsIn t.length c := Ways.allW_capsIn t pt i hi _ (List.mem_of_find?_eq_some hc)
  have hnl := Nms.len h.nm
  have hn16 := h.nlen
  -- [None] * len(names)
  refine ⟨by show 1 ≤ sizeLine; decide, fun z hz => ?_⟩
  have h1 := h.sameH (Same.upd (o := HO.lst [V.non]) hz)
  refine ⟨_, rfl, x.sr, CS, x.dxs, _, _, rfl, h1.same _ _ h1.at_, T.cl, T.n1, sF_pat, x.pp, CP, x.dxp, _, _, rfl, h1.same _ _ h1.pa, TP.cl, TP.n1, pF_names, x.an, _, rfl, .inl (SqL.of (h1.same _ _ h1.nl)), ?_⟩
  refine ⟨z, _, _, rfl, rfl, upd_same, by omega, by rw [List.length_map, hnl]; omega, ?_, fun ac hac => ?_⟩
  · rw [List.length_map, hnl]
    show 1 * (((ns.length : Nat) : Int).toNat) ≤ sizeLine
    exact Nat.le_of_lt (small1000 (by omega))
  have en : (((x.ts.map V.ref).length : Nat) : Int).toNat = ns.length := by rw [List.length_map, hnl]; omega
  rw [en, rep_flat]
  have hacH : H ac = none := none_same (Same.upd hz) hac
  have s2 : Same H (upd (upd H z (.lst [V.non])) ac (.lst (List.replicate ns.length V.non))) := Same.trans (Same.upd hz) (Same.upd hac)
  have h2 := h.sameH s2
  have hdm := h.dt.at
  obtain ⟨ib', hib', rgb, rab, nsb, hnb, _⟩ := hdm
  rw [hib] at hib'
  cases hib'
  have hfo : FoAt K cs x.M (fun _ => False) x.G (ns.map (·.2)) t ac (upd (upd H z (.lst [V.non])) ac (.lst (List.replicate ns.length V.non))) (List.replicate ns.length V.non) [] := ⟨h2.fz, h2.same, none_same h.same hacH, upd_same, ⟨by rw [List.length_replicate, List.length_map], fun k n e => by
      have hk := (List.getElem?_eq_some_iff.mp e).1
      rw [List.length_map] at hk
      show (List.replicate ns.length V.non)[k]? = some V.non
      rw [List.getElem?_replicate, if_pos hk]⟩, h.txt.len, by rw [List.length_map]; omega, h.nmd⟩
  refine ⟨tagOf ib.kd, _, rfl, x.sr, CS, x.dxs, _, _, rfl, h2.same _ _ h2.at_, T.cl, T.n1, sF_pat, x.pp, CP, x.dxp, _, _, rfl, h2.same _ _ h2.pa, TP.cl, TP.n2, pF_bodyP, x.b, ib.dx, _, rfl, by rw [← at_tag]; exact h2.same _ _ hnb, nF_no (by decide +kernel) _ _ _, _, rfl, _, rfl, ?_⟩
  refine only_use (by have := h.txt.len; omega) ⟨_, rfl, ?_⟩
  refine fo_use (z := (j, y)) hib rfl (by omega) hfo h.dt hi hy fun H3 ws3 hf3 k3 => ?_
  have s3 : Same H H3 := fun a o e => k3 a o (s2 _ _ e) (ne_of_none e hacH)
  -- answer = []
  refine ⟨by show 0 ≤ sizeLine; decide, fun an hn => ?_⟩
  have han3 : an ≠ ac := fun e => by rw [e, hf3.hac] at hn; cases hn
  have hanH : H an = none := none_same s3 hn
  have hf4 := hf3.sameH (Same.upd (o := HO.lst []) hn)
  have eac : upd H3 an (.lst []) ac = some (.lst ws3) := hf4.hac
  refine ⟨_, rfl, ac, rfl, ⟨_, SqL.of eac⟩, ?_⟩
  have hwl := hf3.cap.len
  rw [List.length_map] at hwl
  have hcap : ∀ (k : Nat) (n : Nat × Name), ns[k]? = some n → match Caps.get c n.2 with
      | none => ws3[k]? = some V.non
      | some x => ∃ Tp, ws3[k]? = some (V.ref Tp) ∧ SqT K H3 Tp [.int (x.1 : Nat), .int (x.2 : Nat)] := fun k n e => by
    have := hf3.cap.at_ k n.2 (by rw [List.getElem?_map, e]; rfl)
    rw [List.append_nil] at this
    have e2 : Caps.get (j, y).2 n.2 = Caps.get c n.2 := hget n.2
    rw [e2] at this
    exact this
  refine for_list (xs := ws3) (fun k σ H' => (∃ v5, σ = [some (.ref x.sr), some (.int (i : Nat)), some (.int (j : Nat)), some (.ref ac), some (.ref an), v5]) ∧ Kept H3 H' an ∧ H' an = some (.lst ((PatSpec.capsOf t (ns.take k) c).map V.int))) ?_ (fun k σ H' _ h => SqL.of (h.2.1 _ _ hf3.hac han3.symm)) ?_ ?_
  · exact ⟨⟨_, rfl⟩, fun b o e n => (upd_ne n).trans e, upd_same⟩
  · rintro k v σ H5 hv ⟨⟨v5, rfl⟩, k5, e5⟩
    have hkn : k < ns.length := by rw [← hwl]; exact (List.getElem?_eq_some_iff.mp hv).1
    obtain ⟨n, hn1⟩ : ∃ n, ns[k]? = some n := ⟨_, List.getElem?_eq_getElem hkn⟩
    have hck := hcap k n hn1
    have htk : ns.take (k + 1) = ns.take k ++ [n] := by rw [List.take_add_one, hn1]; rfl
    have hcl : ((PatSpec.capsOf t (ns.take k) c).map V.int).length + 2 ≤ sizeLine := by
      rw [List.length_map, capsOf_len, List.length_take]
      exact Nat.le_of_lt (small1000 (by omega))
    have s5 : Same H H5 := fun a o e => k5 a o (s3 a o e) (ne_of_none e hanH)
    have h5 := h.sameH s5
    refine ⟨_, rfl, rfl, _, rfl, ?_⟩
    cases eg : Caps.get c n.2 with
    | none =>
      rw [eg] at hck
      have hck : ws3[k]? = some V.non := hck
      rw [hv] at hck
      cases hck
      refine if_true_of rfl ⟨_, rfl, .inl ⟨rfl, _, SqL.of e5⟩, _, rfl, _, rfl, by show 2 ≤ sizeLine; decide, fun q hq => ?_⟩
      have hqan : an ≠ q := ne_of_none e5 hq
      refine ⟨an, q, _, _, rfl, rfl, (upd_ne hqan).trans e5, upd_same, hcl, ⟨_, rfl⟩, (k5.trans (Kept.of_same (Same.upd hq))).trans Kept.upd, ?_⟩
      rw [upd_same, htk, capsOf_snoc, eg, List.map_append]
      rfl
    | some sp =>
      rw [eg] at hck
      obtain ⟨Tp, hTp, hsq⟩ := hck
      rw [hv] at hTp
      cases hTp
      obtain ⟨hb1, hb2⟩ := Ways.get_in hcin eg
      have hsq5 : SqT K H5 Tp [.int (sp.1 : Nat), .int (sp.2 : Nat)] := by
        rcases hsq with (hs | ⟨o, hs⟩) | hs
        · exact .inl (.inl (k5 _ _ hs (fun z => by rw [z, hn] at hs; cases hs)))
        · exact .inl (.inr ⟨o, k5 _ _ hs (fun z => by rw [z, hn] at hs; cases hs)⟩)
        · exact .inr hs
      refine if_false_of rfl ⟨_, rfl, .inl ⟨rfl, _, SqL.of e5⟩, _, rfl, x.sr, CS, x.dxs, _, _, rfl, h5.same _ _ h5.at_, T.cl, T.n2, sF_txt, x.tx, x.dxt, _, rfl, (h5.txt.same h5.same).at_, tF_no (by decide +kernel), _, rfl, Tp, _, _, _, rfl, rfl, hsq5, atI_nat (j := 0) rfl, _, rfl, Tp, _, _, _, rfl, rfl, hsq5, atI_nat (j := 1) rfl, ?_⟩
      refine inb_use (h5.txt.same h5.same) (fb_at (by omega)) (fb_at hb2) fun H6 q s6 hq eq6 => ?_
      have hqan : an ≠ q := ne_of_none e5 hq
      refine ⟨an, q, _, _, rfl, rfl, s6 _ _ e5, eq6, hcl, ⟨_, rfl⟩, (k5.trans (Kept.of_same s6)).trans Kept.upd, ?_⟩
      rw [upd_same, htk, capsOf_snoc, eg, List.map_append]
      rfl
  · rintro σ H5 ⟨⟨v5, rfl⟩, k5, e5⟩
    rw [hwl, List.take_length] at e5
    have s5 : Same H H5 := fun a o e => k5 a o (s3 a o e) (ne_of_none e hanH)
    exact ⟨_, rfl, hQ H5 an s5 hanH e5⟩
end
end Pat
end

section
namespace Pat
open PySem PySem.Spec PyProof.Rows L2
open PatWords (Name Caps)
open Ways (WF FwdW FitsW fst Val)
/-- the first place from one on that has a match, and its end -/
def fmOf (pt : PatWords.Pat) (t : List Nat) (i : Nat) : Option (Nat × Nat) := (PatWords.find pt t i).map fun m => (m.1, m.2.1)
theorem findIn_step {pt : PatWords.Pat} {t : List Nat} {f i : Nat} (hi : i ≤ t.length) : PatWords.findIn (PatWords.table t pt) t.length (f + 1) i = match Answers.best (Ways.allW t pt i) with
    | some z => some (i, z.1, z.2)
    | none => PatWords.findIn (PatWords.table t pt) t.length f (i + 1) := by
  rw [PatWords.findIn, if_neg (by omega), Answers.match_all pt t hi]
  all_goals (cases Answers.best (Ways.allW t pt i) <;> rfl)
theorem findIn_end {pt : PatWords.Pat} {t : List Nat} {f i : Nat} (hi : t.length < i) : PatWords.findIn (PatWords.table t pt) t.length f i = none := by
  cases f with
  | zero => rfl
  | succ f => rw [PatWords.findIn, if_pos hi]
theorem findIn_fuel {pt : PatWords.Pat} {t : List Nat} : ∀ (f i : Nat), t.length - i + 1 ≤ f → PatWords.findIn (PatWords.table t pt) t.length f i = PatWords.findIn (PatWords.table t pt) t.length (t.length - i + 1) i
  | 0, i, h => by omega
  | f + 1, i, h => by
    by_cases hi : i ≤ t.length
    · rw [findIn_step hi]
      cases e : Answers.best (Ways.allW t pt i) with
      | some z => rw [findIn_step hi, e]
      | none =>
        by_cases h2 : i = t.length
        · rw [findIn_end (by omega), findIn_step hi, e]
          exact (findIn_end (by omega)).symm
        · have e2 : t.length - i + 1 = (t.length - (i + 1) + 1) + 1 := by omega
          rw [findIn_step hi, e]
          dsimp only
          rw [findIn_fuel f (i + 1) (by omega)]
          congr 1
          omega
    · rw [findIn_end (by omega), findIn_end (by omega)]
/-- the search by its steps -/
theorem find_step {pt : PatWords.Pat} {t : List Nat} {i : Nat} (hi : i ≤ t.length) : PatWords.find pt t i = match Answers.best (Ways.allW t pt i) with
    | some z => some (i, z.1, z.2)
    | none => PatWords.find pt t (i + 1) := by
  unfold PatWords.find
  rw [findIn_step (f := t.length + 1) hi]
  cases Answers.best (Ways.allW t pt i) with
  | some z => rfl
  | none =>
    dsimp only
    rw [findIn_fuel (t.length + 1) (i + 1) (by omega), findIn_fuel (t.length + 2) (i + 1) (by omega)]
theorem find_end {pt : PatWords.Pat} {t : List Nat} {i : Nat} (hi : t.length < i) : PatWords.find pt t i = none := findIn_end hi
/-- what is found lies in the text, and is the match there -/
theorem find_some {pt : PatWords.Pat} {t : List Nat} {a j : Nat} {c : Caps} : ∀ (d i : Nat), t.length - i = d → PatWords.find pt t i = some (a, j, c) → i ≤ a ∧ a ≤ j ∧ j ≤ t.length ∧ (Ways.allW t pt a).find? (fun z => z.1 == j) = some (j, c)
  | d, i, hd, h => by
    by_cases hi : i ≤ t.length
    · rw [find_step hi] at h
      cases e : Answers.best (Ways.allW t pt i) with
      | some z =>
        rw [e] at h
        cases h
        obtain ⟨h1, h2⟩ := Answers.best_some.mp e
        have hm := Ways.allW_fwd t pt _ hi _ (List.mem_of_find?_eq_some h2)
        exact ⟨Nat.le_refl _, hm.1, hm.2, h2⟩
      | none =>
        rw [e] at h
        by_cases h2 : i = t.length
        · dsimp only at h
          rw [find_end (by omega)] at h
          cases h
        · obtain ⟨h3, h4⟩ := find_some (d - 1) (i + 1) (by omega) h
          exact ⟨by omega, h4⟩
    · rw [find_end (by omega)] at h
      cases h
  termination_by d => d
  decreasing_by omega
section
variable {P : Program} {w : World} {K : PySem.W.Frag} {mg : Str → Option Value} {base : Heap} {cs : Cs} {CS CP CT CF CX fI fX : Addr} {H : Hp} {Q : VK} {E : XK}
theorem SrAt.reachF {x : SrW} {pt : PatWords.Pat} {ns : List (Nat × Name)} {t : List Nat} {g : List UInt8} (h : SrAt K cs CS CP CT H x pt ns t g) : ∃ (τ : Tag) (dx rg ra : Addr) (kd : Kd) (ks : List Nat), tagOf kd = τ ∧ H x.b = some (.ins (cs.tag τ) dx (nF rg ra kd)) ∧ H rg = some (.lst (iv ks)) ∧ Rep t.length ks (fun i e => e ∈ Ways.ends (Ways.allW t pt i)) := by
  obtain ⟨i, hi, hid, hfw⟩ := h.fit
  obtain ⟨i', hi', rg, ra, ks, h1, h2, h3, _⟩ := h.dt.at
  rw [hi] at hi'
  cases hi'
  exact ⟨tagOf i.kd, i.dx, rg, ra, i.kd, ks, rfl, by rw [← at_tag]; exact h.same _ _ h1, h.same _ _ h2.1, h3.congr fun p hp e => (hfw t h.val p hp).ends e⟩
/-! ### first_match -/
/-- None, or a new pair -/
def GivesM (K : PySem.W.Frag) (H : Hp) (Q : VK) : Option (Nat × Nat) → Prop
  | none => Q .non H
  | some m => ∀ p, H p = none → Q (.ref p) (upd H p (.tup [.int (m.1 : Nat), .int (m.2 : Nat)]))
@[irreducible] def spFm (K : PySem.W.Frag) (cs : Cs) (CS CP CT : Addr) : Sp := fun vs H Q _ => ∃ (x : SrW) (pt : PatWords.Pat) (ns : List (Nat × Name)) (t : List Nat) (g : List UInt8) (i : Nat), vs = [.ref x.sr, .int (i : Nat)] ∧ SrAt K cs CS CP CT H x pt ns t g ∧ i ≤ 1000 ∧ GivesM K H Q (fmOf pt t i)
theorem fm_use {x : SrW} {pt : PatWords.Pat} {ns : List (Nat × Name)} {t : List Nat} {g : List UInt8} {i : Nat} (h : SrAt K cs CS CP CT H x pt ns t g) (hi : i ≤ 1000) (r : GivesM K H Q (fmOf pt t i)) : spFm K cs CS CP CT [.ref x.sr, .int (i : Nat)] H Q E := by
  unfold spFm
  exact ⟨x, pt, ns, t, g, i, rfl, h, hi, r⟩
theorem scFm : FnScope ["self", "place", "begin"] ["self", "place"] (defScope (sS 2)) := ⟨rfl, rfl, rfl, by decide +kernel, rfl, by decide +kernel, by decide +kernel⟩
theorem ok_fm {f : Addr} {fd : FuncData} (F : Fun K "first_match" "Search.first_match" (sS 2) f fd) (T : TxSr K CS) (TP : TxP K CP) (TN : TxN K cs) (TT : TxT K CT) (hrange : mg "range" = none) (M1 : MOk P w K mg base CX0 CT 2 "end_place" ["self"] (spEnd CT)) (G2 : GOk P w K mg base CX0 2 "highest_place" ["places"] spHigh) : FnOk P w K mg base CX0 3 f fd ["self", "place"] (spFm K cs CS CP CT) := by
  obtain ⟨f1, fd1, m1, b1, G1⟩ := M1
  obtain ⟨f2, fd2, gg2, k2, b2, G2⟩ := G2
  refine F.ok scFm (fun vs H Q E h => ?_) (fun cdv A outer s H vs Q E hr h => ⟨_, pss_cons (ps_for PassesOwn.never rfl (pi_range2 (by rfl) hrange (by exact (pa_cons (pv 1) (pa_cons (pe_op op_add (pe_meth0 (pe_fld (pv 0) rfl) TT.cl m1 G1 hr b1 .nil pass0) pe_int) pa_nil)))) (pg_name (i := 2) scFm.nd rfl (Or.inl rfl))
        (pss_one (ps_if (pt_cmpR op_ne (pe_ix ix_list (pe_fld (pe_fld (pe_fld (pv 0) rfl) rfl) rfl) (pv 2) (fun _ _ => rfl)) pe_int (nomark _))
          (pss_one (ps_ret (pe_tup (by exact (pa_cons (pv 2) (pa_cons (pe_call G2 hr rfl gg2 k2 b2 .nil pass0 (by exact (pa_cons (pe_ix ix_list (pe_fld (pe_fld (pe_fld (pv 0) rfl) rfl) rfl) (pv 2) (fun _ _ => rfl)) pa_nil))) pa_nil)))))) pss_nil)))
      (pss_one (ps_ret pe_non)), ?_⟩)
  · unfold spFm at h
    obtain ⟨_, _, _, _, _, _, rfl, _⟩ := h
    rfl
  unfold spFm at h
  obtain ⟨x, pt, ns, t, g, i, rfl, h, hi, hQ⟩ := h
  obtain ⟨τ, dx, rg, ra, kd, ks, hτ, h1, h2, h3⟩ := h.reachF
  have htx := h.txt.same h.same
  have htl := htx.len
  refine ⟨_, rfl, _, rfl, x.sr, CS, x.dxs, _, _, rfl, h.same _ _ h.at_, T.cl, T.n2, sF_txt, x.tx, x.dxt, _, rfl, htx.at_, tF_no (by decide +kernel), ?_⟩
  refine end_use htx ⟨_, _, rfl, rfl, _, _, rfl, ⟨by omega, by omega, by omega, by omega⟩, ?_⟩
  refine for_range (lo := ((i : Nat) : Int)) (n := (((t.length : Nat) : Int) + 1 - ((i : Nat) : Int)).toNat) (fun j σ H' => H' = H ∧ (∃ v2, σ = [some (.ref x.sr), some (.int (i : Nat)), v2]) ∧ GivesM K H Q (fmOf pt t (i + j))) ?_ ?_ ?_
  · exact ⟨rfl, ⟨_, rfl⟩, hQ⟩
  · rintro j σ H1 hj ⟨rfl, ⟨v2, rfl⟩, hg⟩
    have hin : i + j ≤ t.length := by omega
    have ei : ((i : Nat) : Int) + (j : Nat) = ((i + j : Nat) : Int) := by omega
    rw [ei]
    refine ⟨_, rfl, x.sr, CS, x.dxs, _, _, rfl, h.same _ _ h.at_, T.cl, T.n1, sF_pat, x.pp, CP, x.dxp, _, _, rfl, h.same _ _ h.pa, TP.cl, TP.n2, pF_bodyP, x.b, cs.tag τ, dx, _, _, rfl, h1, TN.cl _, TN.re _, nF_reach _ _ _, _, rfl, rg, _, _, _, rfl, rfl, SqL.of h2, atI_nat (iv_at (h3.get hin)), rfl, ?_⟩
    refine ⟨!decide (ks.getD (i + j) 0 = 0), congrArg V.bl (congrArg (!·) (int_dec _ 0)), ?_⟩
    unfold fmOf at hg
    rw [find_step hin] at hg
    by_cases c0 : ks.getD (i + j) 0 = 0
    · have hnone : Answers.best (Ways.allW t pt (i + j)) = none := by
        rw [Answers.best_none]
        cases e : Ways.allW t pt (i + j) with
        | nil => rfl
        | cons z l =>
          have := (h3.2 (i + j) hin z.1).mpr (by show z.1 ∈ Ways.ends (Ways.allW t pt (i + j)); rw [e]; exact List.mem_cons_self ..)
          rw [c0, Nat.zero_testBit] at this
          cases this
      rw [hnone] at hg
      exact if_false_of (by rw [decide_eq_true c0]; rfl) ⟨rfl, ⟨_, rfl⟩, hg⟩
    · have hp0 : 0 < ks.getD (i + j) 0 := Nat.pos_of_ne_zero c0
      have hb := (h3.2 (i + j) hin _).mp (Bits.log2_bit hp0)
      have hbest : ∃ c, Answers.best (Ways.allW t pt (i + j)) = some ((ks.getD (i + j) 0).log2, c) := by
        obtain ⟨z, hz, hze⟩ := Ways.mem_ends.mp hb
        cases e : (Ways.allW t pt (i + j)).find? (fun y => y.1 == (ks.getD (i + j) 0).log2) with
        | none =>
          rw [List.find?_eq_none] at e
          exact absurd (beq_iff_eq.mpr hze) (e z hz)
        | some y =>
          have hy : y.1 = (ks.getD (i + j) 0).log2 := beq_iff_eq.mp (List.find?_some (p := fun y : Nat × Caps => y.1 == (ks.getD (i + j) 0).log2) e)
          refine ⟨y.2, Answers.best_some.mpr ⟨fun z hz => ?_, by rw [e, ← hy]⟩⟩
          exact Bits.log2_top ((h3.2 (i + j) hin z.1).mpr (Ways.mem_ends.mpr ⟨z, hz, rfl⟩))
      obtain ⟨c, hbest⟩ := hbest
      rw [hbest] at hg
      refine if_true_of (by rw [decide_eq_false c0]; rfl) ⟨_, rfl, ?_⟩
      refine ⟨_, rfl, x.sr, CS, x.dxs, _, _, rfl, h.same _ _ h.at_, T.cl, T.n1, sF_pat, x.pp, CP, x.dxp, _, _, rfl, h.same _ _ h.pa, TP.cl, TP.n2, pF_bodyP, x.b, cs.tag τ, dx, _, _, rfl, h1, TN.cl _, TN.re _, nF_reach _ _ _, _, rfl, rg, _, _, _, rfl, rfl, SqL.of h2, atI_nat (iv_at (h3.get hin)), ?_⟩
      exact high_use hp0 ⟨by show 2 ≤ sizeLine; decide, fun p hp => hg p hp⟩
  · rintro σ H1 ⟨rfl, ⟨v2, rfl⟩, hg⟩
    unfold fmOf at hg
    rw [find_end (by omega)] at hg
    exact hg
end
end Pat
end

section
namespace Pat
open PySem PySem.Spec PyProof.Rows L2
open PatWords (Name Caps)
section
variable {P : Program} {w : World} {K : PySem.W.Frag} {mg : Str → Option Value} {base : Heap} {cs : Cs} {CS CP CT CF CX fI fX : Addr} {H : Hp} {Q : VK} {E : XK}
/-! ### spans -/
@[irreducible] def spSpans (K : PySem.W.Frag) (cs : Cs) (CS CP CT : Addr) : Sp := fun vs H Q _ => ∃ (x : SrW) (pt : PatWords.Pat) (ns : List (Nat × Name)) (t : List Nat) (g : List UInt8) (i j : Nat) (c : Caps), vs = [.ref x.sr, .int (i : Nat), .int (j : Nat)] ∧ SrAt K cs CS CP CT H x pt ns t g ∧ i ≤ t.length ∧ j ≤ t.length ∧ (Ways.allW t pt i).find? (fun z => z.1 == j) = some (j, c) ∧
  ∀ H' p, Same H H' → H p = none → H' p = some (.lst ((PatSpec.spanOf t (i, j) ++ PatSpec.capsOf t ns c).map V.int)) → Q (.ref p) H'
theorem spans_use {x : SrW} {pt : PatWords.Pat} {ns : List (Nat × Name)} {t : List Nat} {g : List UInt8} {i j : Nat} {c : Caps} (h : SrAt K cs CS CP CT H x pt ns t g) (hi : i ≤ t.length) (hj : j ≤ t.length) (hc : (Ways.allW t pt i).find? (fun z => z.1 == j) = some (j, c))
    (r : ∀ H' p, Same H H' → H p = none → H' p = some (.lst ((PatSpec.spanOf t (i, j) ++ PatSpec.capsOf t ns c).map V.int)) → Q (.ref p) H') : spSpans K cs CS CP CT [.ref x.sr, .int (i : Nat), .int (j : Nat)] H Q E := by
  unfold spSpans
  exact ⟨x, pt, ns, t, g, i, j, c, rfl, h, hi, hj, hc, r⟩
theorem scSpans : FnScope ["self", "begin", "end"] ["self", "begin", "end"] (defScope (sS 6)) := ⟨rfl, rfl, rfl, by decide +kernel, rfl, by decide +kernel, by decide +kernel⟩
theorem ok_spans {f : Addr} {fd : FuncData} (F : Fun K "spans" "Search.spans" (sS 6) f fd) (T : TxSr K CS) (TT : TxT K CT) (MI : MOk P w K mg base CX0 CT 2 "in_bytes" ["self", "begin", "end"] (spInB CT)) (MC : MOk P w K mg base CX0 CS 203 "captures" ["self", "begin", "end"] (spCaps K cs CS CP CT)) :
    FnOk P w K mg base CX0 204 f fd ["self", "begin", "end"] (spSpans K cs CS CP CT) := by
  obtain ⟨f1, fd1, m1, b1, G1⟩ := MI
  obtain ⟨f2, fd2, m2, b2, G2⟩ := MC
  refine F.ok scSpans (fun vs H Q E h => ?_) (fun cdv A outer s H vs Q E hr h => ⟨_, pss_one (ps_ret (pe_op op_cat (pe_meth (pe_fld (pv 0) rfl) TT.cl m1 G1 (hr.mono (by decide)) b1 .nil pass0 (by exact (pa_cons (pv 1) (pa_cons (pv 2) pa_nil))))
      (pe_meth (pv 0) T.cl m2 G2 hr b2 .nil pass0 (by exact (pa_cons (pv 1) (pa_cons (pv 2) pa_nil)))))), ?_⟩)
  · unfold spSpans at h
    obtain ⟨_, _, _, _, _, _, _, _, rfl, _⟩ := h
    rfl
  unfold spSpans at h
  obtain ⟨x, pt, ns, t, g, i, j, c, rfl, h, hi, hj, hc, hQ⟩ := h
  have htx := h.txt.same h.same
  refine ⟨_, rfl, x.sr, CS, x.dxs, _, _, rfl, h.same _ _ h.at_, T.cl, T.n2, sF_txt, x.tx, x.dxt, _, rfl, htx.at_, tF_no (by decide +kernel), _, rfl, _, rfl, ?_⟩
  refine inb_use htx (fb_at hi) (fb_at hj) fun H1 q s1 hq e1 => ?_
  have h1 := h.sameH s1
  refine ⟨_, rfl, x.sr, x.dxs, _, rfl, h1.same _ _ h1.at_, sF_no (by decide +kernel), _, rfl, _, rfl, ?_⟩
  refine caps_use h1 hi hj hc fun H2 p s2 hp e2 => ?_
  refine ⟨q, p, _, _, rfl, rfl, s2 _ _ e1, e2, ?_, fun r hr0 => hQ _ r (Same.trans (Same.trans s1 s2) (Same.upd hr0)) (none_same (Same.trans s1 s2) hr0) ?_⟩
  · rw [List.length_map, capsOf_len]
    have := h.nlen
    show 2 + 2 * ns.length ≤ sizeLine
    exact Nat.le_of_lt (small1000 (by omega))
  · rw [upd_same, List.map_append]
    rfl
end
end Pat
end

section
namespace Pat
open PySem PySem.Spec PyProof.Rows L2
open PatWords (Name Caps)
open PatUtf (Fault)
open PySem.FaultX (FaultTxt)
open PySem.RefX (RefTxt)
section
variable {P : Program} {w : World} {K : PySem.W.Frag} {mg : Str → Option Value} {base : Heap} {cs : Cs} {CS CP CT CF CX fI fX : Addr} {H : Hp} {Q : VK} {E : XK}
/-! ### find -/
theorem fb_flat (t : List Nat) : (iv (fbOf t)).all flatV = true := by
  unfold iv
  rw [List.all_map]
  exact List.all_eq_true.mpr fun _ _ => rfl
/-- whether a byte begins a place -/
theorem fb_in (t : List Nat) (k : Int) : inV (.int k) (iv (fbOf t)) = (PatSpec.placeAt t k).isSome := by
  unfold inV iv fbOf PatSpec.placeAt
  rw [List.any_map, List.any_map, Bool.eq_iff_iff, List.find?_isSome, List.any_eq_true]
  constructor
  · rintro ⟨i, hi, h⟩
    exact ⟨i, hi, beq_iff_eq.mpr (of_decide_eq_true h)⟩
  · rintro ⟨i, hi, h⟩
    exact ⟨i, hi, decide_eq_true (beq_iff_eq.mp h)⟩
theorem place_some {t : List Nat} {k : Int} {i : Nat} (h : PatSpec.placeAt t k = some i) : i ≤ t.length ∧ ((PatSpec.byteAt t i : Nat) : Int) = k := by
  unfold PatSpec.placeAt at h
  have h1 := List.mem_of_find?_eq_some h
  have h2 := List.find?_some h
  rw [List.mem_range] at h1
  exact ⟨by omega, beq_iff_eq.mp h2⟩
abbrev spCall (K : PySem.W.Frag) : Sp := fun vs H Q _ => ∃ (ap at_ : Addr) (g u : List UInt8) (k : Int), vs = [.int k, .ref ap, .ref at_] ∧ SqL K H ap (gv g) ∧ SqL K H at_ (gv u) ∧ g.length ≤ 1000 ∧ u.length ≤ 1000 ∧ ∀ H' p, H' p = some (.lst ((Answers.findL k g u).map V.int)) → Q (.ref p) H'
abbrev sJ : Stmt := top i_find
theorem scJ : FnScope ["from_byte", "p", "t", "search", "refusal", "found"] ["from_byte", "p", "t"] (defScope sJ) := ⟨rfl, rfl, rfl, by decide +kernel, rfl, by decide +kernel, by decide +kernel⟩
theorem ok_call {f : Addr} {fd : FuncData} (F : Fun K "find" "find" sJ f fd) (RT : RefTxt K mg CX fX) (TS : TxSr K CS) (TT : TxT K CT) (k1 : ∃ t, mg "NO_PLACE" = some (.int (-1) t))
    (G1 : GOk P w K mg base (L2.CX P w) 206 "search_of" ["p", "t"] (spSO K cs CS CP CT CX)) (M2 : MOk P w K mg base CX0 CS 3 "first_match" ["self", "place"] (spFm K cs CS CP CT)) (M3 : MOk P w K mg base CX0 CS 204 "spans" ["self", "begin", "end"] (spSpans K cs CS CP CT)) :
    FnOk P w K mg base CX0 224 f fd ["from_byte", "p", "t"] (spCall K) := by
  obtain ⟨f1, fd1, gg1, kp1, b1, G1⟩ := G1
  obtain ⟨f2, fd2, m2, b2, G2⟩ := M2
  obtain ⟨f3, fd3, m3, b3, G3⟩ := M3
  refine F.ok scJ (fun vs H Q E h => ?_) (fun cdv A outer s H vs Q E hr h => ⟨_, pss_cons (ps_try_as (i := 4) (tb := fun W => tAsg (tCallS (spSO K cs CS CP CT CX) (WE W) (tCons (tVar 1) (tCons (tVar 2) tNil))) (gName 3)) (ts := fun a cls d => tRet (tXf a cls d CX "answer" (tVar 4))) (Wout := fun _ _ _ _ => False) rfl rfl scJ.nd rfl rfl ⟨rfl, by decide, Or.inl RT.gC⟩ takes0
          (fun W pn xe tk _ => pss_one (ps_set (i := 3) scJ.nd rfl (Or.inl rfl) (by exact (pe_callS G1 (hr.mono (by decide)) rfl gg1 kp1 b1 (fun σ => passAt tk σ) (by exact (pa_cons (pv 1) (pa_cons (pv 2) pa_nil)))))))
          (fun a oe cls d pn hz hf => pss_one (ps_ret (by exact (pe_xf RT.xf RT.noA hz hf (pv 4))))))
      (pss_cons (ps_if (pt_cmpR op_notIn_seq (pv 0) (pe_fld (pe_fld (pv 3) rfl) rfl) (by rfl)) (pss_one (ps_ret (pe_lst (pa_cons (pe_gi k1) pa_nil)))) pss_nil)
      (pss_cons (ps_set (i := 5) scJ.nd rfl (Or.inl rfl) (pe_meth (pv 3) TS.cl m2 G2 (hr.mono (by decide)) b2 .nil pass0 (by exact (pa_cons (pe_bm PySem.F.plainAttrs_list PySem.F.slot_list_index PySem.F.type_list_index mt_index (pe_fld (pe_fld (pv 3) rfl) rfl) (by exact (pa_cons (pv 0) pa_nil))) pa_nil))))
      (pss_cons (ps_if (pt_cmpR op_isN (pv 5) pe_non (nomark _)) (pss_one (ps_ret (pe_lst (pa_cons pe_int pa_nil)))) pss_nil)
      (pss_one (ps_ret (pe_op op_cat (pe_lst (pa_cons pe_int pa_nil)) (pe_meth (pv 3) TS.cl m3 G3 (hr.mono (by decide)) b3 .nil pass0 (by exact (pa_cons (pe_ix ix_tup (pv 5) pe_int (fun _ _ => rfl)) (pa_cons (pe_ix ix_tup (pv 5) pe_int (fun _ _ => rfl)) pa_nil)))))))))), ?_⟩)
  · obtain ⟨_, _, _, _, _, rfl, _⟩ := h
    rfl
  obtain ⟨ap, at_, g, u, k, rfl, sp, st, _, _, hQ⟩ := h
  refine ⟨_, rfl, _, rfl, ?_⟩
  have out : ∀ {l : List Int} {nx bk ct : L2.St → Hp → Prop}, Answers.findL k g u = l → OutR CX l (WE (wAs K (.ref CX) 4 (fun a cls d => tRet (tXf a cls d CX "answer" (tVar 4))) (fun _ _ _ _ => False) { nx := nx, rt := Q, bk := bk, ct := ct }) [some (.int k), some (.ref ap), some (.ref at_), none, none, none]) := by
    intro l nx bk ct e d H' q hd hq
    refine ⟨true, RT.te, fun _ a0 _ => ?_, fun q => Bool.noConfusion q⟩
    exact ⟨_, rfl, rfl, rfl, d, _, _, rfl, hd, refF_answer _, hQ _ q (by rw [e]; exact hq)⟩
  refine so_use sp st ?_
  unfold Answers.findL Answers.both at hQ out
  by_cases c : 128 < g.length ∨ 128 < u.length
  · rw [if_pos c]
    rw [if_pos c] at out
    exact out rfl
  rw [if_neg c]
  rw [if_neg c] at out hQ
  cases er : PatWords.read g with
  | error e =>
    rw [er] at out
    dsimp only at out ⊢
    exact out rfl
  | ok y =>
    obtain ⟨pt, ns⟩ := y
    rw [er] at out hQ
    cases es : PatUtf.scalars 0 u with
    | error e =>
      rw [es] at out
      dsimp only at out ⊢
      exact out rfl
    | ok t =>
      rw [es] at hQ
      dsimp only at hQ ⊢
      intro H1 x hS _
      have htx := hS.txt.same hS.same
      have htl := htx.len
      refine ⟨_, rfl, _, rfl, x.sr, CS, x.dxs, _, _, rfl, hS.same _ _ hS.at_, TS.cl, TS.n2, sF_txt, x.tx, CT, x.dxt, _, _, rfl, htx.at_, TT.cl, TT.n2, tF_fb, x.afb, _, rfl, .inl (SqL.of htx.fb), rfl, fb_flat t, _, rfl, ?_⟩
      rw [fb_in]
      cases ek : PatSpec.placeAt t k with
      | none =>
        rw [ek] at hQ
        exact if_true_of rfl ⟨by show 1 ≤ sizeLine; decide, fun q hq => hQ _ q upd_same⟩
      | some i =>
        rw [ek] at hQ
        dsimp only at hQ
        obtain ⟨hi, hik⟩ := place_some ek
        refine if_false_of rfl ⟨_, rfl, x.sr, x.dxs, _, rfl, hS.same _ _ hS.at_, sF_no (by decide +kernel), _, rfl, x.sr, CS, x.dxs, _, _, rfl, hS.same _ _ hS.at_, TS.cl, TS.n2, sF_txt, x.tx, CT, x.dxt, _, _, rfl, htx.at_, TT.cl, TT.n2, tF_fb, .inl ⟨rfl, _, SqL.of htx.fb⟩, _, rfl, x.afb, _, _, i, _, rfl, rfl, SqL.of htx.fb, rfl, fb_flat t, iv_at (fb_at hi), ?_, ?_, ?_⟩
        · show decide _ = true
          rw [decide_eq_true_iff]
          exact hik
        · intro m z' hm hz'
          have hmt : m ≤ t.length := by omega
          rw [iv_at (fb_at hmt)] at hz'
          cases hz'
          show decide _ = false
          rw [decide_eq_false_iff_not]
          intro h
          have h2 : PatSpec.byteAt t m = PatSpec.byteAt t i := by
            have : ((PatSpec.byteAt t m : Nat) : Int) = (PatSpec.byteAt t i : Nat) := h.trans hik.symm
            omega
          have := Utf.byteAt_inj hmt hi h2
          omega
        refine fm_use hS (by omega) ?_
        unfold fmOf
        cases ef : PatWords.find pt t i with
        | none =>
          rw [ef] at hQ
          exact ⟨_, rfl, rfl, _, rfl, if_true_of rfl ⟨by show 1 ≤ sizeLine; decide, fun q hq => hQ _ q upd_same⟩⟩
        | some m =>
          obtain ⟨a, j, cc⟩ := m
          rw [ef] at hQ
          have hQ : ∀ (H' : Hp) (p : Addr), H' p = some (.lst ((1 :: (PatSpec.spanOf t (a, j) ++ PatSpec.capsOf t ns cc)).map V.int)) → Q (.ref p) H' := hQ
          obtain ⟨h1, h2, h3, h4⟩ := find_some _ _ rfl ef
          intro p hp
          have s2 := Same.upd (o := HO.tup [V.int (a : Nat), V.int (j : Nat)]) hp
          have hS2 := hS.sameH s2
          refine ⟨_, rfl, rfl, _, rfl, if_false_of rfl ⟨by show 1 ≤ sizeLine; decide, fun q hq => ?_⟩⟩
          have s3 := Same.upd (o := HO.lst [V.int 1]) hq
          have hS3 := hS2.sameH s3
          have hpT := SqT.of (K := K) (s3 _ _ (upd_same (H := H1) (a := p)))
          refine ⟨_, rfl, x.sr, x.dxs, _, rfl, hS3.same _ _ hS3.at_, sF_no (by decide +kernel), _, rfl, p, _, _, _, rfl, rfl, hpT, atI_nat (j := 0) rfl, _, rfl, p, _, _, _, rfl, rfl, hpT, atI_nat (j := 1) rfl, ?_⟩
          refine spans_use hS3 (Nat.le_trans h2 h3) h3 h4 fun H3 r s4 hr0 er0 => ?_
          refine ⟨q, r, _, _, rfl, rfl, s4 _ _ upd_same, er0, ?_, fun z hz => hQ _ z upd_same⟩
          rw [List.length_map, List.length_append, capsOf_len]
          have := hS.nlen
          show 1 + (2 + 2 * ns.length) ≤ sizeLine
          exact Nat.le_of_lt (small1000 (by omega))
end
end Pat
end

section
namespace Pat
open PySem PySem.Spec PyProof.Rows L2
open PySem.FaultX (FaultTxt)
theorem exm_self {K : PySem.W.Frag} {S : Addr} (h1 : PySem.W.subIn K (.ref S) (.type "BaseException") = some true) (h2 : PySem.W.isClsIn K S = true) (h3 : PySem.W.typeIn K (.ref S) = some (.type "type")) (h4 : PySem.W.subIn K (.ref S) (.ref S) = some true) :
    PySem.W.exmOne K (.ref S) (.ref S) = some true := by
  have e1 : (PySem.W.subIn K (.ref S) (.type "BaseException") == some true) = true := by rw [h1] <;> rfl
  have e2 : ((PySem.W.clsIn K S).isSome && PySem.W.typeIn K (.ref S) == some (.type "type")) = true := by
    have h2' : (PySem.W.clsIn K S).isSome = true := h2
    rw [h2', h3] <;> rfl
  show (if (PySem.W.subIn K (.ref S) (.type "BaseException") == some true) = true then (if ((PySem.W.clsIn K S).isSome && PySem.W.typeIn K (.ref S) == some (.type "type")) = true then PySem.W.subIn K (.ref S) (.ref S) else none) else none) = some true
  rw [if_pos e1, if_pos e2]
  exact h4
theorem tup_k {K : PySem.W.Frag} {t : Addr} {its : Array Value} {n : Nat} {xs : List V} (h : K.lookup t = some ⟨.type "tuple", none, .seq its n, #[]⟩) (hz : its.size ≤ 1000) (v : Vals xs its.toList) (H : Hp) : SqT K H t xs :=
  .inr ⟨_, _, _, h, rfl, rfl, Nat.le_of_lt (small1000 hz), v⟩
theorem pair_k {K : PySem.W.Frag} {t : Addr} {a b : Int} {u v : Tok} {n : Nat} (h : K.lookup t = some ⟨.type "tuple", none, .seq #[.int a u, .int b v] n, #[]⟩) (H : Hp) : SqT K H t [.int a, .int b] :=
  tup_k (xs := [V.int a, V.int b]) h (by show 2 ≤ 1000; decide) (.cons ⟨_, rfl⟩ (.cons ⟨_, rfl⟩ .nil)) H

theorem all_mk {P : Program} {w : World} {K : PySem.W.Frag} {h : Heap} {mg : Str → Option Value} {fa C CB CP co cS cR cC cP cK CF fI CT CS CX fX d1 d2 d3 d4 d5 d6 d7 d8 d9 g1 g2 g3 g4 g5 g6 g7 g8 g9 g10 : Addr} (X : K.In h) (G : h.Ns mainGlobals mg) (hfa : mg "find" = some (.ref fa))
    {f_R_init f_R_need_byte f_R_at f_R_take f_R_take_plain f_R_take_escape f_R_take_one f_R_take_part f_R_take_set f_R_take_escaped_atom f_R_take_single_atom f_R_take_number f_R_take_braces f_R_take_times f_R_take_repetition f_R_keep_name f_R_take_name f_R_take_opening f_R_take_closing f_R_take_next f_R_made_pattern f_B_init f_B_add_atom f_B_repeat_atom f_B_end_row f_B_made_part f_P_init f_o_init f_o_measure f_o_follow f_s_init f_s_may_stand f_s_measure f_s_follow f_r_init f_r_measure f_r_follow f_c_init f_c_measure f_c_follow f_p_init f_p_measure f_p_one_time_before f_p_wanted_next f_p_follow f_k_init f_k_measure f_k_follow f_T_init f_T_end_place f_T_has_word_value f_T_is_word_edge f_T_in_bytes f_S_init f_S_first_match f_S_captures f_S_spans f_just_one f_is_just_one f_every_value f_all_but f_listed_ranges f_row_of f_choice_of f_following_bytes f_scalar_at f_escape_ranges f_names_in f_read_pattern f_only f_lowest_place f_highest_place f_without f_staying f_reached_from f_one_behind_other f_any_times_onward f_have_value f_is_word_value f_search_of f_leading_to f_find : Addr}
    {oc_R_init kV_R_init dc_R_init pm_R_init cd_R_init ct_R_init oc_R_need_byte kV_R_need_byte dc_R_need_byte pm_R_need_byte cd_R_need_byte ct_R_need_byte oc_R_at kV_R_at dc_R_at pm_R_at cd_R_at ct_R_at oc_R_take kV_R_take dc_R_take pm_R_take cd_R_take ct_R_take oc_R_take_plain kV_R_take_plain dc_R_take_plain pm_R_take_plain cd_R_take_plain ct_R_take_plain oc_R_take_escape kV_R_take_escape dc_R_take_escape pm_R_take_escape cd_R_take_escape ct_R_take_escape oc_R_take_one kV_R_take_one dc_R_take_one pm_R_take_one cd_R_take_one ct_R_take_one oc_R_take_part kV_R_take_part dc_R_take_part pm_R_take_part cd_R_take_part ct_R_take_part oc_R_take_set kV_R_take_set dc_R_take_set pm_R_take_set cd_R_take_set ct_R_take_set oc_R_take_escaped_atom kV_R_take_escaped_atom dc_R_take_escaped_atom pm_R_take_escaped_atom cd_R_take_escaped_atom ct_R_take_escaped_atom oc_R_take_single_atom kV_R_take_single_atom dc_R_take_single_atom pm_R_take_single_atom cd_R_take_single_atom ct_R_take_single_atom oc_R_take_number kV_R_take_number dc_R_take_number pm_R_take_number cd_R_take_number ct_R_take_number oc_R_take_braces kV_R_take_braces dc_R_take_braces pm_R_take_braces cd_R_take_braces ct_R_take_braces oc_R_take_times kV_R_take_times dc_R_take_times pm_R_take_times cd_R_take_times ct_R_take_times oc_R_take_repetition kV_R_take_repetition dc_R_take_repetition pm_R_take_repetition cd_R_take_repetition ct_R_take_repetition oc_R_keep_name kV_R_keep_name dc_R_keep_name pm_R_keep_name cd_R_keep_name ct_R_keep_name oc_R_take_name kV_R_take_name dc_R_take_name pm_R_take_name cd_R_take_name ct_R_take_name oc_R_take_opening kV_R_take_opening dc_R_take_opening pm_R_take_opening cd_R_take_opening ct_R_take_opening oc_R_take_closing kV_R_take_closing dc_R_take_closing pm_R_take_closing cd_R_take_closing ct_R_take_closing oc_R_take_next kV_R_take_next dc_R_take_next pm_R_take_next cd_R_take_next ct_R_take_next oc_R_made_pattern kV_R_made_pattern dc_R_made_pattern pm_R_made_pattern cd_R_made_pattern ct_R_made_pattern oc_B_init kV_B_init dc_B_init pm_B_init cd_B_init ct_B_init oc_B_add_atom kV_B_add_atom dc_B_add_atom pm_B_add_atom cd_B_add_atom ct_B_add_atom oc_B_repeat_atom kV_B_repeat_atom dc_B_repeat_atom pm_B_repeat_atom cd_B_repeat_atom ct_B_repeat_atom oc_B_end_row kV_B_end_row dc_B_end_row pm_B_end_row cd_B_end_row ct_B_end_row oc_B_made_part kV_B_made_part dc_B_made_part pm_B_made_part cd_B_made_part ct_B_made_part oc_P_init kV_P_init dc_P_init pm_P_init cd_P_init ct_P_init oc_o_init kV_o_init dc_o_init pm_o_init cd_o_init ct_o_init oc_o_measure kV_o_measure dc_o_measure pm_o_measure cd_o_measure ct_o_measure oc_o_follow kV_o_follow dc_o_follow pm_o_follow cd_o_follow ct_o_follow oc_s_init kV_s_init dc_s_init pm_s_init cd_s_init ct_s_init oc_s_may_stand kV_s_may_stand dc_s_may_stand pm_s_may_stand cd_s_may_stand ct_s_may_stand oc_s_measure kV_s_measure dc_s_measure pm_s_measure cd_s_measure ct_s_measure oc_s_follow kV_s_follow dc_s_follow pm_s_follow cd_s_follow ct_s_follow oc_r_init kV_r_init dc_r_init pm_r_init cd_r_init ct_r_init oc_r_measure kV_r_measure dc_r_measure pm_r_measure cd_r_measure ct_r_measure oc_r_follow kV_r_follow dc_r_follow pm_r_follow cd_r_follow ct_r_follow oc_c_init kV_c_init dc_c_init pm_c_init cd_c_init ct_c_init oc_c_measure kV_c_measure dc_c_measure pm_c_measure cd_c_measure ct_c_measure oc_c_follow kV_c_follow dc_c_follow pm_c_follow cd_c_follow ct_c_follow oc_p_init kV_p_init dc_p_init pm_p_init cd_p_init ct_p_init oc_p_measure kV_p_measure dc_p_measure pm_p_measure cd_p_measure ct_p_measure oc_p_one_time_before kV_p_one_time_before dc_p_one_time_before pm_p_one_time_before cd_p_one_time_before ct_p_one_time_before oc_p_wanted_next kV_p_wanted_next dc_p_wanted_next pm_p_wanted_next cd_p_wanted_next ct_p_wanted_next oc_p_follow kV_p_follow dc_p_follow pm_p_follow cd_p_follow ct_p_follow oc_k_init kV_k_init dc_k_init pm_k_init cd_k_init ct_k_init oc_k_measure kV_k_measure dc_k_measure pm_k_measure cd_k_measure ct_k_measure oc_k_follow kV_k_follow dc_k_follow pm_k_follow cd_k_follow ct_k_follow oc_T_init kV_T_init dc_T_init pm_T_init cd_T_init ct_T_init oc_T_end_place kV_T_end_place dc_T_end_place pm_T_end_place cd_T_end_place ct_T_end_place oc_T_has_word_value kV_T_has_word_value dc_T_has_word_value pm_T_has_word_value cd_T_has_word_value ct_T_has_word_value oc_T_is_word_edge kV_T_is_word_edge dc_T_is_word_edge pm_T_is_word_edge cd_T_is_word_edge ct_T_is_word_edge oc_T_in_bytes kV_T_in_bytes dc_T_in_bytes pm_T_in_bytes cd_T_in_bytes ct_T_in_bytes oc_S_init kV_S_init dc_S_init pm_S_init cd_S_init ct_S_init oc_S_first_match kV_S_first_match dc_S_first_match pm_S_first_match cd_S_first_match ct_S_first_match oc_S_captures kV_S_captures dc_S_captures pm_S_captures cd_S_captures ct_S_captures oc_S_spans kV_S_spans dc_S_spans pm_S_spans cd_S_spans ct_S_spans oc_just_one kV_just_one dc_just_one pm_just_one cd_just_one ct_just_one oc_is_just_one kV_is_just_one dc_is_just_one pm_is_just_one cd_is_just_one ct_is_just_one oc_every_value kV_every_value dc_every_value pm_every_value cd_every_value ct_every_value oc_all_but kV_all_but dc_all_but pm_all_but cd_all_but ct_all_but oc_listed_ranges kV_listed_ranges dc_listed_ranges pm_listed_ranges cd_listed_ranges ct_listed_ranges oc_row_of kV_row_of dc_row_of pm_row_of cd_row_of ct_row_of oc_choice_of kV_choice_of dc_choice_of pm_choice_of cd_choice_of ct_choice_of oc_following_bytes kV_following_bytes dc_following_bytes pm_following_bytes cd_following_bytes ct_following_bytes oc_scalar_at kV_scalar_at dc_scalar_at pm_scalar_at cd_scalar_at ct_scalar_at oc_escape_ranges kV_escape_ranges dc_escape_ranges pm_escape_ranges cd_escape_ranges ct_escape_ranges oc_names_in kV_names_in dc_names_in pm_names_in cd_names_in ct_names_in oc_read_pattern kV_read_pattern dc_read_pattern pm_read_pattern cd_read_pattern ct_read_pattern oc_only kV_only dc_only pm_only cd_only ct_only oc_lowest_place kV_lowest_place dc_lowest_place pm_lowest_place cd_lowest_place ct_lowest_place oc_highest_place kV_highest_place dc_highest_place pm_highest_place cd_highest_place ct_highest_place oc_without kV_without dc_without pm_without cd_without ct_without oc_staying kV_staying dc_staying pm_staying cd_staying ct_staying oc_reached_from kV_reached_from dc_reached_from pm_reached_from cd_reached_from ct_reached_from oc_one_behind_other kV_one_behind_other dc_one_behind_other pm_one_behind_other cd_one_behind_other ct_one_behind_other oc_any_times_onward kV_any_times_onward dc_any_times_onward pm_any_times_onward cd_any_times_onward ct_any_times_onward oc_have_value kV_have_value dc_have_value pm_have_value cd_have_value ct_have_value oc_is_word_value kV_is_word_value dc_is_word_value pm_is_word_value cd_is_word_value ct_is_word_value oc_search_of kV_search_of dc_search_of pm_search_of cd_search_of ct_search_of oc_leading_to kV_leading_to dc_leading_to pm_leading_to cd_leading_to ct_leading_to oc_find kV_find dc_find pm_find cd_find ct_find oc1FT dc1FT pm1FT cd1FT ct1FT oc1RT dc1RT pm1RT cd1RT ct1RT : Value}
    {od_R_init an_R_init od_R_need_byte an_R_need_byte od_R_at an_R_at od_R_take an_R_take od_R_take_plain an_R_take_plain od_R_take_escape an_R_take_escape od_R_take_one an_R_take_one od_R_take_part an_R_take_part od_R_take_set an_R_take_set od_R_take_escaped_atom an_R_take_escaped_atom od_R_take_single_atom an_R_take_single_atom od_R_take_number an_R_take_number od_R_take_braces an_R_take_braces od_R_take_times an_R_take_times od_R_take_repetition an_R_take_repetition od_R_keep_name an_R_keep_name od_R_take_name an_R_take_name od_R_take_opening an_R_take_opening od_R_take_closing an_R_take_closing od_R_take_next an_R_take_next od_R_made_pattern an_R_made_pattern od_B_init an_B_init od_B_add_atom an_B_add_atom od_B_repeat_atom an_B_repeat_atom od_B_end_row an_B_end_row od_B_made_part an_B_made_part od_P_init an_P_init od_o_init an_o_init od_o_measure an_o_measure od_o_follow an_o_follow od_s_init an_s_init od_s_may_stand an_s_may_stand od_s_measure an_s_measure od_s_follow an_s_follow od_r_init an_r_init od_r_measure an_r_measure od_r_follow an_r_follow od_c_init an_c_init od_c_measure an_c_measure od_c_follow an_c_follow od_p_init an_p_init od_p_measure an_p_measure od_p_one_time_before an_p_one_time_before od_p_wanted_next an_p_wanted_next od_p_follow an_p_follow od_k_init an_k_init od_k_measure an_k_measure od_k_follow an_k_follow od_T_init an_T_init od_T_end_place an_T_end_place od_T_has_word_value an_T_has_word_value od_T_is_word_edge an_T_is_word_edge od_T_in_bytes an_T_in_bytes od_S_init an_S_init od_S_first_match an_S_first_match od_S_captures an_S_captures od_S_spans an_S_spans od_just_one an_just_one od_is_just_one an_is_just_one od_every_value an_every_value od_all_but an_all_but od_listed_ranges an_listed_ranges od_row_of an_row_of od_choice_of an_choice_of od_following_bytes an_following_bytes od_scalar_at an_scalar_at od_escape_ranges an_escape_ranges od_names_in an_names_in od_read_pattern an_read_pattern od_only an_only od_lowest_place an_lowest_place od_highest_place an_highest_place od_without an_without od_staying an_staying od_reached_from an_reached_from od_one_behind_other an_one_behind_other od_any_times_onward an_any_times_onward od_have_value an_have_value od_is_word_value an_is_word_value od_search_of an_search_of od_leading_to an_leading_to od_find an_find od1FT an1FT od1RT an1RT : Option Addr}
    {sl_R_init sl_R_need_byte sl_R_at sl_R_take sl_R_take_plain sl_R_take_escape sl_R_take_one sl_R_take_part sl_R_take_set sl_R_take_escaped_atom sl_R_take_single_atom sl_R_take_number sl_R_take_braces sl_R_take_times sl_R_take_repetition sl_R_keep_name sl_R_take_name sl_R_take_opening sl_R_take_closing sl_R_take_next sl_R_made_pattern sl_B_init sl_B_add_atom sl_B_repeat_atom sl_B_end_row sl_B_made_part sl_P_init sl_o_init sl_o_measure sl_o_follow sl_s_init sl_s_may_stand sl_s_measure sl_s_follow sl_r_init sl_r_measure sl_r_follow sl_c_init sl_c_measure sl_c_follow sl_p_init sl_p_measure sl_p_one_time_before sl_p_wanted_next sl_p_follow sl_k_init sl_k_measure sl_k_follow sl_T_init sl_T_end_place sl_T_has_word_value sl_T_is_word_edge sl_T_in_bytes sl_S_init sl_S_first_match sl_S_captures sl_S_spans sl_just_one sl_is_just_one sl_every_value sl_all_but sl_listed_ranges sl_row_of sl_choice_of sl_following_bytes sl_scalar_at sl_escape_ranges sl_names_in sl_read_pattern sl_only sl_lowest_place sl_highest_place sl_without sl_staying sl_reached_from sl_one_behind_other sl_any_times_onward sl_have_value sl_is_word_value sl_search_of sl_leading_to sl_find sl1FT sl1RT : Array (Option Value)}
    {nmFT qFT : Str} {NFT : Addr} {bsFT : List Value} {snFT : List Str} {subFT : List Value} {abFT : Bool} {colFT : Option Bool} {ddFT : Option Addr} {m0FT m1FT m2FT m3FT m5FT : Option Value}
    {nmRT qRT : Str} {NRT : Addr} {bsRT : List Value} {snRT : List Str} {subRT : List Value} {abRT : Bool} {colRT : Option Bool} {ddRT : Option Addr} {m0RT m1RT m2RT m3RT m5RT : Option Value}
    {e1 e2 e3 e4 e5 e6 e7 e8 e9 e10 e11 e12 e13 e14 e15 e16 e17 e18 e19 : Nat}
    {t_ENDS_TOO_SOON t_CANNOT_STAND t_NUMBER_OUT_OF_RANGE t_NAME_REFUSED t_TOO_MANY_OPEN t_ENDS_IN_WRONG_ORDER t_TOO_MANY_ATOMS t_MOST_TIMES t_MOST_NAMES t_LONGEST_NAME t_MOST_OPEN t_MOST_ATOMS t_LONGEST t_TOO_LONG t_NOT_IN_FORM t_GREATEST t_NO_PLACE t_FIGURES t_SMALL_LETTERS t_NAME_SIGNS t_SIGNS t_SET_SIGNS t_END_ESCAPES t_PART_ESCAPES t_ATOM_ESCAPES t_LISTED_ESCAPES u1 u2 u3 u4 u5 u6 u7 u8 u9 u10 u11 u12 u13 u14 u15 u16 u17 u18 u19 u20 u21 u22 u23 u24 u25 u26 u27 u28 u29 u30 u31 u32 u33 u34 u35 u36 u37 u38 u39 u40 : Tok}
    (aR : PySem.W.nsIn K mainGlobals "Reader" = some (some (.ref C)))
    (pgR : PySem.W.plainGet K C Str.empty = true)
    (hdR : PySem.W.hasDictIn K C = true)
    (poR : PySem.W.plainOver K C = true)
    (saR : PySem.W.findIn K (.ref C) "__setattr__" = some (some (.builtin "object.__setattr__")))
    (mkR : PySem.W.makesIn K C = true)
    (kcR : PySem.W.keepIn K (.ref C) = true)
    (nR_given : PySem.W.findIn K (.ref C) "given" = some none)
    (nR_place : PySem.W.findIn K (.ref C) "place" = some none)
    (nR_names : PySem.W.findIn K (.ref C) "names" = some none)
    (nR_brackets : PySem.W.findIn K (.ref C) "brackets" = some none)
    (a_R_init : PySem.W.findIn K (.ref C) "__init__" = some (some (.ref f_R_init)))
    (i_R_init : PySem.W.isFn K (.ref f_R_init) = true)
    (l_R_init : K.lookup f_R_init = some ⟨oc_R_init, od_R_init, .func (PySem.W.fnOf "__init__" "Reader.__init__" (defArgs (sR 0)) (defBody (sR 0)) (defScope (sR 0)) .none kV_R_init dc_R_init pm_R_init an_R_init cd_R_init ct_R_init), sl_R_init⟩)
    (c_R_init : PySem.W.codeIn K cd_R_init "Reader.__init__" = true)
    (k_R_init : PySem.W.keepIn K (.ref f_R_init) = true)
    (a_R_need_byte : PySem.W.findIn K (.ref C) "need_byte" = some (some (.ref f_R_need_byte)))
    (i_R_need_byte : PySem.W.isFn K (.ref f_R_need_byte) = true)
    (l_R_need_byte : K.lookup f_R_need_byte = some ⟨oc_R_need_byte, od_R_need_byte, .func (PySem.W.fnOf "need_byte" "Reader.need_byte" (defArgs (sR 1)) (defBody (sR 1)) (defScope (sR 1)) .none kV_R_need_byte dc_R_need_byte pm_R_need_byte an_R_need_byte cd_R_need_byte ct_R_need_byte), sl_R_need_byte⟩)
    (c_R_need_byte : PySem.W.codeIn K cd_R_need_byte "Reader.need_byte" = true)
    (k_R_need_byte : PySem.W.keepIn K (.ref f_R_need_byte) = true)
    (a_R_at : PySem.W.findIn K (.ref C) "at" = some (some (.ref f_R_at)))
    (i_R_at : PySem.W.isFn K (.ref f_R_at) = true)
    (l_R_at : K.lookup f_R_at = some ⟨oc_R_at, od_R_at, .func (PySem.W.fnOf "at" "Reader.at" (defArgs (sR 2)) (defBody (sR 2)) (defScope (sR 2)) .none kV_R_at dc_R_at pm_R_at an_R_at cd_R_at ct_R_at), sl_R_at⟩)
    (c_R_at : PySem.W.codeIn K cd_R_at "Reader.at" = true)
    (k_R_at : PySem.W.keepIn K (.ref f_R_at) = true)
    (a_R_take : PySem.W.findIn K (.ref C) "take" = some (some (.ref f_R_take)))
    (i_R_take : PySem.W.isFn K (.ref f_R_take) = true)
    (l_R_take : K.lookup f_R_take = some ⟨oc_R_take, od_R_take, .func (PySem.W.fnOf "take" "Reader.take" (defArgs (sR 3)) (defBody (sR 3)) (defScope (sR 3)) .none kV_R_take dc_R_take pm_R_take an_R_take cd_R_take ct_R_take), sl_R_take⟩)
    (c_R_take : PySem.W.codeIn K cd_R_take "Reader.take" = true)
    (k_R_take : PySem.W.keepIn K (.ref f_R_take) = true)
    (a_R_take_plain : PySem.W.findIn K (.ref C) "take_plain" = some (some (.ref f_R_take_plain)))
    (i_R_take_plain : PySem.W.isFn K (.ref f_R_take_plain) = true)
    (l_R_take_plain : K.lookup f_R_take_plain = some ⟨oc_R_take_plain, od_R_take_plain, .func (PySem.W.fnOf "take_plain" "Reader.take_plain" (defArgs (sR 4)) (defBody (sR 4)) (defScope (sR 4)) .none kV_R_take_plain dc_R_take_plain pm_R_take_plain an_R_take_plain cd_R_take_plain ct_R_take_plain), sl_R_take_plain⟩)
    (c_R_take_plain : PySem.W.codeIn K cd_R_take_plain "Reader.take_plain" = true)
    (k_R_take_plain : PySem.W.keepIn K (.ref f_R_take_plain) = true)
    (a_R_take_escape : PySem.W.findIn K (.ref C) "take_escape" = some (some (.ref f_R_take_escape)))
    (i_R_take_escape : PySem.W.isFn K (.ref f_R_take_escape) = true)
    (l_R_take_escape : K.lookup f_R_take_escape = some ⟨oc_R_take_escape, od_R_take_escape, .func (PySem.W.fnOf "take_escape" "Reader.take_escape" (defArgs (sR 5)) (defBody (sR 5)) (defScope (sR 5)) .none kV_R_take_escape dc_R_take_escape pm_R_take_escape an_R_take_escape cd_R_take_escape ct_R_take_escape), sl_R_take_escape⟩)
    (c_R_take_escape : PySem.W.codeIn K cd_R_take_escape "Reader.take_escape" = true)
    (k_R_take_escape : PySem.W.keepIn K (.ref f_R_take_escape) = true)
    (a_R_take_one : PySem.W.findIn K (.ref C) "take_one" = some (some (.ref f_R_take_one)))
    (i_R_take_one : PySem.W.isFn K (.ref f_R_take_one) = true)
    (l_R_take_one : K.lookup f_R_take_one = some ⟨oc_R_take_one, od_R_take_one, .func (PySem.W.fnOf "take_one" "Reader.take_one" (defArgs (sR 6)) (defBody (sR 6)) (defScope (sR 6)) .none kV_R_take_one dc_R_take_one pm_R_take_one an_R_take_one cd_R_take_one ct_R_take_one), sl_R_take_one⟩)
    (c_R_take_one : PySem.W.codeIn K cd_R_take_one "Reader.take_one" = true)
    (k_R_take_one : PySem.W.keepIn K (.ref f_R_take_one) = true)
    (a_R_take_part : PySem.W.findIn K (.ref C) "take_part" = some (some (.ref f_R_take_part)))
    (i_R_take_part : PySem.W.isFn K (.ref f_R_take_part) = true)
    (l_R_take_part : K.lookup f_R_take_part = some ⟨oc_R_take_part, od_R_take_part, .func (PySem.W.fnOf "take_part" "Reader.take_part" (defArgs (sR 7)) (defBody (sR 7)) (defScope (sR 7)) .none kV_R_take_part dc_R_take_part pm_R_take_part an_R_take_part cd_R_take_part ct_R_take_part), sl_R_take_part⟩)
    (c_R_take_part : PySem.W.codeIn K cd_R_take_part "Reader.take_part" = true)
    (k_R_take_part : PySem.W.keepIn K (.ref f_R_take_part) = true)
    (a_R_take_set : PySem.W.findIn K (.ref C) "take_set" = some (some (.ref f_R_take_set)))
    (i_R_take_set : PySem.W.isFn K (.ref f_R_take_set) = true)
    (l_R_take_set : K.lookup f_R_take_set = some ⟨oc_R_take_set, od_R_take_set, .func (PySem.W.fnOf "take_set" "Reader.take_set" (defArgs (sR 8)) (defBody (sR 8)) (defScope (sR 8)) .none kV_R_take_set dc_R_take_set pm_R_take_set an_R_take_set cd_R_take_set ct_R_take_set), sl_R_take_set⟩)
    (c_R_take_set : PySem.W.codeIn K cd_R_take_set "Reader.take_set" = true)
    (k_R_take_set : PySem.W.keepIn K (.ref f_R_take_set) = true)
    (a_R_take_escaped_atom : PySem.W.findIn K (.ref C) "take_escaped_atom" = some (some (.ref f_R_take_escaped_atom)))
    (i_R_take_escaped_atom : PySem.W.isFn K (.ref f_R_take_escaped_atom) = true)
    (l_R_take_escaped_atom : K.lookup f_R_take_escaped_atom = some ⟨oc_R_take_escaped_atom, od_R_take_escaped_atom, .func (PySem.W.fnOf "take_escaped_atom" "Reader.take_escaped_atom" (defArgs (sR 9)) (defBody (sR 9)) (defScope (sR 9)) .none kV_R_take_escaped_atom dc_R_take_escaped_atom pm_R_take_escaped_atom an_R_take_escaped_atom cd_R_take_escaped_atom ct_R_take_escaped_atom), sl_R_take_escaped_atom⟩)
    (c_R_take_escaped_atom : PySem.W.codeIn K cd_R_take_escaped_atom "Reader.take_escaped_atom" = true)
    (k_R_take_escaped_atom : PySem.W.keepIn K (.ref f_R_take_escaped_atom) = true)
    (a_R_take_single_atom : PySem.W.findIn K (.ref C) "take_single_atom" = some (some (.ref f_R_take_single_atom)))
    (i_R_take_single_atom : PySem.W.isFn K (.ref f_R_take_single_atom) = true)
    (l_R_take_single_atom : K.lookup f_R_take_single_atom = some ⟨oc_R_take_single_atom, od_R_take_single_atom, .func (PySem.W.fnOf "take_single_atom" "Reader.take_single_atom" (defArgs (sR 10)) (defBody (sR 10)) (defScope (sR 10)) .none kV_R_take_single_atom dc_R_take_single_atom pm_R_take_single_atom an_R_take_single_atom cd_R_take_single_atom ct_R_take_single_atom), sl_R_take_single_atom⟩)
    (c_R_take_single_atom : PySem.W.codeIn K cd_R_take_single_atom "Reader.take_single_atom" = true)
    (k_R_take_single_atom : PySem.W.keepIn K (.ref f_R_take_single_atom) = true)
    (a_R_take_number : PySem.W.findIn K (.ref C) "take_number" = some (some (.ref f_R_take_number)))
    (i_R_take_number : PySem.W.isFn K (.ref f_R_take_number) = true)
    (l_R_take_number : K.lookup f_R_take_number = some ⟨oc_R_take_number, od_R_take_number, .func (PySem.W.fnOf "take_number" "Reader.take_number" (defArgs (sR 11)) (defBody (sR 11)) (defScope (sR 11)) .none kV_R_take_number dc_R_take_number pm_R_take_number an_R_take_number cd_R_take_number ct_R_take_number), sl_R_take_number⟩)
    (c_R_take_number : PySem.W.codeIn K cd_R_take_number "Reader.take_number" = true)
    (k_R_take_number : PySem.W.keepIn K (.ref f_R_take_number) = true)
    (a_R_take_braces : PySem.W.findIn K (.ref C) "take_braces" = some (some (.ref f_R_take_braces)))
    (i_R_take_braces : PySem.W.isFn K (.ref f_R_take_braces) = true)
    (l_R_take_braces : K.lookup f_R_take_braces = some ⟨oc_R_take_braces, od_R_take_braces, .func (PySem.W.fnOf "take_braces" "Reader.take_braces" (defArgs (sR 12)) (defBody (sR 12)) (defScope (sR 12)) .none kV_R_take_braces dc_R_take_braces pm_R_take_braces an_R_take_braces cd_R_take_braces ct_R_take_braces), sl_R_take_braces⟩)
    (c_R_take_braces : PySem.W.codeIn K cd_R_take_braces "Reader.take_braces" = true)
    (k_R_take_braces : PySem.W.keepIn K (.ref f_R_take_braces) = true)
    (a_R_take_times : PySem.W.findIn K (.ref C) "take_times" = some (some (.ref f_R_take_times)))
    (i_R_take_times : PySem.W.isFn K (.ref f_R_take_times) = true)
    (l_R_take_times : K.lookup f_R_take_times = some ⟨oc_R_take_times, od_R_take_times, .func (PySem.W.fnOf "take_times" "Reader.take_times" (defArgs (sR 13)) (defBody (sR 13)) (defScope (sR 13)) .none kV_R_take_times dc_R_take_times pm_R_take_times an_R_take_times cd_R_take_times ct_R_take_times), sl_R_take_times⟩)
    (c_R_take_times : PySem.W.codeIn K cd_R_take_times "Reader.take_times" = true)
    (k_R_take_times : PySem.W.keepIn K (.ref f_R_take_times) = true)
    (a_R_take_repetition : PySem.W.findIn K (.ref C) "take_repetition" = some (some (.ref f_R_take_repetition)))
    (i_R_take_repetition : PySem.W.isFn K (.ref f_R_take_repetition) = true)
    (l_R_take_repetition : K.lookup f_R_take_repetition = some ⟨oc_R_take_repetition, od_R_take_repetition, .func (PySem.W.fnOf "take_repetition" "Reader.take_repetition" (defArgs (sR 14)) (defBody (sR 14)) (defScope (sR 14)) .none kV_R_take_repetition dc_R_take_repetition pm_R_take_repetition an_R_take_repetition cd_R_take_repetition ct_R_take_repetition), sl_R_take_repetition⟩)
    (c_R_take_repetition : PySem.W.codeIn K cd_R_take_repetition "Reader.take_repetition" = true)
    (k_R_take_repetition : PySem.W.keepIn K (.ref f_R_take_repetition) = true)
    (a_R_keep_name : PySem.W.findIn K (.ref C) "keep_name" = some (some (.ref f_R_keep_name)))
    (i_R_keep_name : PySem.W.isFn K (.ref f_R_keep_name) = true)
    (l_R_keep_name : K.lookup f_R_keep_name = some ⟨oc_R_keep_name, od_R_keep_name, .func (PySem.W.fnOf "keep_name" "Reader.keep_name" (defArgs (sR 15)) (defBody (sR 15)) (defScope (sR 15)) .none kV_R_keep_name dc_R_keep_name pm_R_keep_name an_R_keep_name cd_R_keep_name ct_R_keep_name), sl_R_keep_name⟩)
    (c_R_keep_name : PySem.W.codeIn K cd_R_keep_name "Reader.keep_name" = true)
    (k_R_keep_name : PySem.W.keepIn K (.ref f_R_keep_name) = true)
    (a_R_take_name : PySem.W.findIn K (.ref C) "take_name" = some (some (.ref f_R_take_name)))
    (i_R_take_name : PySem.W.isFn K (.ref f_R_take_name) = true)
    (l_R_take_name : K.lookup f_R_take_name = some ⟨oc_R_take_name, od_R_take_name, .func (PySem.W.fnOf "take_name" "Reader.take_name" (defArgs (sR 16)) (defBody (sR 16)) (defScope (sR 16)) .none kV_R_take_name dc_R_take_name pm_R_take_name an_R_take_name cd_R_take_name ct_R_take_name), sl_R_take_name⟩)
    (c_R_take_name : PySem.W.codeIn K cd_R_take_name "Reader.take_name" = true)
    (k_R_take_name : PySem.W.keepIn K (.ref f_R_take_name) = true)
    (a_R_take_opening : PySem.W.findIn K (.ref C) "take_opening" = some (some (.ref f_R_take_opening)))
    (i_R_take_opening : PySem.W.isFn K (.ref f_R_take_opening) = true)
    (l_R_take_opening : K.lookup f_R_take_opening = some ⟨oc_R_take_opening, od_R_take_opening, .func (PySem.W.fnOf "take_opening" "Reader.take_opening" (defArgs (sR 17)) (defBody (sR 17)) (defScope (sR 17)) .none kV_R_take_opening dc_R_take_opening pm_R_take_opening an_R_take_opening cd_R_take_opening ct_R_take_opening), sl_R_take_opening⟩)
    (c_R_take_opening : PySem.W.codeIn K cd_R_take_opening "Reader.take_opening" = true)
    (k_R_take_opening : PySem.W.keepIn K (.ref f_R_take_opening) = true)
    (a_R_take_closing : PySem.W.findIn K (.ref C) "take_closing" = some (some (.ref f_R_take_closing)))
    (i_R_take_closing : PySem.W.isFn K (.ref f_R_take_closing) = true)
    (l_R_take_closing : K.lookup f_R_take_closing = some ⟨oc_R_take_closing, od_R_take_closing, .func (PySem.W.fnOf "take_closing" "Reader.take_closing" (defArgs (sR 18)) (defBody (sR 18)) (defScope (sR 18)) .none kV_R_take_closing dc_R_take_closing pm_R_take_closing an_R_take_closing cd_R_take_closing ct_R_take_closing), sl_R_take_closing⟩)
    (c_R_take_closing : PySem.W.codeIn K cd_R_take_closing "Reader.take_closing" = true)
    (k_R_take_closing : PySem.W.keepIn K (.ref f_R_take_closing) = true)
    (a_R_take_next : PySem.W.findIn K (.ref C) "take_next" = some (some (.ref f_R_take_next)))
    (i_R_take_next : PySem.W.isFn K (.ref f_R_take_next) = true)
    (l_R_take_next : K.lookup f_R_take_next = some ⟨oc_R_take_next, od_R_take_next, .func (PySem.W.fnOf "take_next" "Reader.take_next" (defArgs (sR 19)) (defBody (sR 19)) (defScope (sR 19)) .none kV_R_take_next dc_R_take_next pm_R_take_next an_R_take_next cd_R_take_next ct_R_take_next), sl_R_take_next⟩)
    (c_R_take_next : PySem.W.codeIn K cd_R_take_next "Reader.take_next" = true)
    (k_R_take_next : PySem.W.keepIn K (.ref f_R_take_next) = true)
    (a_R_made_pattern : PySem.W.findIn K (.ref C) "made_pattern" = some (some (.ref f_R_made_pattern)))
    (i_R_made_pattern : PySem.W.isFn K (.ref f_R_made_pattern) = true)
    (l_R_made_pattern : K.lookup f_R_made_pattern = some ⟨oc_R_made_pattern, od_R_made_pattern, .func (PySem.W.fnOf "made_pattern" "Reader.made_pattern" (defArgs (sR 20)) (defBody (sR 20)) (defScope (sR 20)) .none kV_R_made_pattern dc_R_made_pattern pm_R_made_pattern an_R_made_pattern cd_R_made_pattern ct_R_made_pattern), sl_R_made_pattern⟩)
    (c_R_made_pattern : PySem.W.codeIn K cd_R_made_pattern "Reader.made_pattern" = true)
    (k_R_made_pattern : PySem.W.keepIn K (.ref f_R_made_pattern) = true)
    (aB : PySem.W.nsIn K mainGlobals "Bracket" = some (some (.ref CB)))
    (pgB : PySem.W.plainGet K CB Str.empty = true)
    (hdB : PySem.W.hasDictIn K CB = true)
    (poB : PySem.W.plainOver K CB = true)
    (saB : PySem.W.findIn K (.ref CB) "__setattr__" = some (some (.builtin "object.__setattr__")))
    (mkB : PySem.W.makesIn K CB = true)
    (kcB : PySem.W.keepIn K (.ref CB) = true)
    (nB_closing : PySem.W.findIn K (.ref CB) "closing" = some none)
    (nB_number : PySem.W.findIn K (.ref CB) "number" = some none)
    (nB_rows : PySem.W.findIn K (.ref CB) "rows" = some none)
    (nB_atoms : PySem.W.findIn K (.ref CB) "atoms" = some none)
    (nB_last_atoms : PySem.W.findIn K (.ref CB) "last_atoms" = some none)
    (a_B_init : PySem.W.findIn K (.ref CB) "__init__" = some (some (.ref f_B_init)))
    (i_B_init : PySem.W.isFn K (.ref f_B_init) = true)
    (l_B_init : K.lookup f_B_init = some ⟨oc_B_init, od_B_init, .func (PySem.W.fnOf "__init__" "Bracket.__init__" (defArgs (sB 0)) (defBody (sB 0)) (defScope (sB 0)) .none kV_B_init dc_B_init pm_B_init an_B_init cd_B_init ct_B_init), sl_B_init⟩)
    (c_B_init : PySem.W.codeIn K cd_B_init "Bracket.__init__" = true)
    (k_B_init : PySem.W.keepIn K (.ref f_B_init) = true)
    (a_B_add_atom : PySem.W.findIn K (.ref CB) "add_atom" = some (some (.ref f_B_add_atom)))
    (i_B_add_atom : PySem.W.isFn K (.ref f_B_add_atom) = true)
    (l_B_add_atom : K.lookup f_B_add_atom = some ⟨oc_B_add_atom, od_B_add_atom, .func (PySem.W.fnOf "add_atom" "Bracket.add_atom" (defArgs (sB 1)) (defBody (sB 1)) (defScope (sB 1)) .none kV_B_add_atom dc_B_add_atom pm_B_add_atom an_B_add_atom cd_B_add_atom ct_B_add_atom), sl_B_add_atom⟩)
    (c_B_add_atom : PySem.W.codeIn K cd_B_add_atom "Bracket.add_atom" = true)
    (k_B_add_atom : PySem.W.keepIn K (.ref f_B_add_atom) = true)
    (a_B_repeat_atom : PySem.W.findIn K (.ref CB) "repeat_atom" = some (some (.ref f_B_repeat_atom)))
    (i_B_repeat_atom : PySem.W.isFn K (.ref f_B_repeat_atom) = true)
    (l_B_repeat_atom : K.lookup f_B_repeat_atom = some ⟨oc_B_repeat_atom, od_B_repeat_atom, .func (PySem.W.fnOf "repeat_atom" "Bracket.repeat_atom" (defArgs (sB 2)) (defBody (sB 2)) (defScope (sB 2)) .none kV_B_repeat_atom dc_B_repeat_atom pm_B_repeat_atom an_B_repeat_atom cd_B_repeat_atom ct_B_repeat_atom), sl_B_repeat_atom⟩)
    (c_B_repeat_atom : PySem.W.codeIn K cd_B_repeat_atom "Bracket.repeat_atom" = true)
    (k_B_repeat_atom : PySem.W.keepIn K (.ref f_B_repeat_atom) = true)
    (a_B_end_row : PySem.W.findIn K (.ref CB) "end_row" = some (some (.ref f_B_end_row)))
    (i_B_end_row : PySem.W.isFn K (.ref f_B_end_row) = true)
    (l_B_end_row : K.lookup f_B_end_row = some ⟨oc_B_end_row, od_B_end_row, .func (PySem.W.fnOf "end_row" "Bracket.end_row" (defArgs (sB 3)) (defBody (sB 3)) (defScope (sB 3)) .none kV_B_end_row dc_B_end_row pm_B_end_row an_B_end_row cd_B_end_row ct_B_end_row), sl_B_end_row⟩)
    (c_B_end_row : PySem.W.codeIn K cd_B_end_row "Bracket.end_row" = true)
    (k_B_end_row : PySem.W.keepIn K (.ref f_B_end_row) = true)
    (a_B_made_part : PySem.W.findIn K (.ref CB) "made_part" = some (some (.ref f_B_made_part)))
    (i_B_made_part : PySem.W.isFn K (.ref f_B_made_part) = true)
    (l_B_made_part : K.lookup f_B_made_part = some ⟨oc_B_made_part, od_B_made_part, .func (PySem.W.fnOf "made_part" "Bracket.made_part" (defArgs (sB 4)) (defBody (sB 4)) (defScope (sB 4)) .none kV_B_made_part dc_B_made_part pm_B_made_part an_B_made_part cd_B_made_part ct_B_made_part), sl_B_made_part⟩)
    (c_B_made_part : PySem.W.codeIn K cd_B_made_part "Bracket.made_part" = true)
    (k_B_made_part : PySem.W.keepIn K (.ref f_B_made_part) = true)
    (aP : PySem.W.nsIn K mainGlobals "Pattern" = some (some (.ref CP)))
    (pgP : PySem.W.plainGet K CP Str.empty = true)
    (hdP : PySem.W.hasDictIn K CP = true)
    (poP : PySem.W.plainOver K CP = true)
    (saP : PySem.W.findIn K (.ref CP) "__setattr__" = some (some (.builtin "object.__setattr__")))
    (mkP : PySem.W.makesIn K CP = true)
    (kcP : PySem.W.keepIn K (.ref CP) = true)
    (nP_names : PySem.W.findIn K (.ref CP) "names" = some none)
    (nP_body : PySem.W.findIn K (.ref CP) "body" = some none)
    (a_P_init : PySem.W.findIn K (.ref CP) "__init__" = some (some (.ref f_P_init)))
    (i_P_init : PySem.W.isFn K (.ref f_P_init) = true)
    (l_P_init : K.lookup f_P_init = some ⟨oc_P_init, od_P_init, .func (PySem.W.fnOf "__init__" "Pattern.__init__" (defArgs (inClass (top i_Pattern) 0)) (defBody (inClass (top i_Pattern) 0)) (defScope (inClass (top i_Pattern) 0)) .none kV_P_init dc_P_init pm_P_init an_P_init cd_P_init ct_P_init), sl_P_init⟩)
    (c_P_init : PySem.W.codeIn K cd_P_init "Pattern.__init__" = true)
    (k_P_init : PySem.W.keepIn K (.ref f_P_init) = true)
    (ao : PySem.W.nsIn K mainGlobals "OneValue" = some (some (.ref co)))
    (pgo : PySem.W.plainGet K co Str.empty = true)
    (hdo : PySem.W.hasDictIn K co = true)
    (poo : PySem.W.plainOver K co = true)
    (sao : PySem.W.findIn K (.ref co) "__setattr__" = some (some (.builtin "object.__setattr__")))
    (mko : PySem.W.makesIn K co = true)
    (kco : PySem.W.keepIn K (.ref co) = true)
    (no_ranges : PySem.W.findIn K (.ref co) "ranges" = some none)
    (no_inverted : PySem.W.findIn K (.ref co) "inverted" = some none)
    (no_reach : PySem.W.findIn K (.ref co) "reach" = some none)
    (a_o_init : PySem.W.findIn K (.ref co) "__init__" = some (some (.ref f_o_init)))
    (i_o_init : PySem.W.isFn K (.ref f_o_init) = true)
    (l_o_init : K.lookup f_o_init = some ⟨oc_o_init, od_o_init, .func (PySem.W.fnOf "__init__" "OneValue.__init__" (defArgs (sON 0)) (defBody (sON 0)) (defScope (sON 0)) .none kV_o_init dc_o_init pm_o_init an_o_init cd_o_init ct_o_init), sl_o_init⟩)
    (c_o_init : PySem.W.codeIn K cd_o_init "OneValue.__init__" = true)
    (k_o_init : PySem.W.keepIn K (.ref f_o_init) = true)
    (a_o_measure : PySem.W.findIn K (.ref co) "measure" = some (some (.ref f_o_measure)))
    (i_o_measure : PySem.W.isFn K (.ref f_o_measure) = true)
    (l_o_measure : K.lookup f_o_measure = some ⟨oc_o_measure, od_o_measure, .func (PySem.W.fnOf "measure" "OneValue.measure" (defArgs (sON 1)) (defBody (sON 1)) (defScope (sON 1)) .none kV_o_measure dc_o_measure pm_o_measure an_o_measure cd_o_measure ct_o_measure), sl_o_measure⟩)
    (c_o_measure : PySem.W.codeIn K cd_o_measure "OneValue.measure" = true)
    (k_o_measure : PySem.W.keepIn K (.ref f_o_measure) = true)
    (a_o_follow : PySem.W.findIn K (.ref co) "follow" = some (some (.ref f_o_follow)))
    (i_o_follow : PySem.W.isFn K (.ref f_o_follow) = true)
    (l_o_follow : K.lookup f_o_follow = some ⟨oc_o_follow, od_o_follow, .func (PySem.W.fnOf "follow" "OneValue.follow" (defArgs (sON 2)) (defBody (sON 2)) (defScope (sON 2)) .none kV_o_follow dc_o_follow pm_o_follow an_o_follow cd_o_follow ct_o_follow), sl_o_follow⟩)
    (c_o_follow : PySem.W.codeIn K cd_o_follow "OneValue.follow" = true)
    (k_o_follow : PySem.W.keepIn K (.ref f_o_follow) = true)
    (as : PySem.W.nsIn K mainGlobals "Standpoint" = some (some (.ref cS)))
    (pgs : PySem.W.plainGet K cS Str.empty = true)
    (hds : PySem.W.hasDictIn K cS = true)
    (pos : PySem.W.plainOver K cS = true)
    (sas : PySem.W.findIn K (.ref cS) "__setattr__" = some (some (.builtin "object.__setattr__")))
    (mks : PySem.W.makesIn K cS = true)
    (kcs : PySem.W.keepIn K (.ref cS) = true)
    (ns_sign : PySem.W.findIn K (.ref cS) "sign" = some none)
    (ns_reach : PySem.W.findIn K (.ref cS) "reach" = some none)
    (a_s_init : PySem.W.findIn K (.ref cS) "__init__" = some (some (.ref f_s_init)))
    (i_s_init : PySem.W.isFn K (.ref f_s_init) = true)
    (l_s_init : K.lookup f_s_init = some ⟨oc_s_init, od_s_init, .func (PySem.W.fnOf "__init__" "Standpoint.__init__" (defArgs (sSN 0)) (defBody (sSN 0)) (defScope (sSN 0)) .none kV_s_init dc_s_init pm_s_init an_s_init cd_s_init ct_s_init), sl_s_init⟩)
    (c_s_init : PySem.W.codeIn K cd_s_init "Standpoint.__init__" = true)
    (k_s_init : PySem.W.keepIn K (.ref f_s_init) = true)
    (a_s_may_stand : PySem.W.findIn K (.ref cS) "may_stand" = some (some (.ref f_s_may_stand)))
    (i_s_may_stand : PySem.W.isFn K (.ref f_s_may_stand) = true)
    (l_s_may_stand : K.lookup f_s_may_stand = some ⟨oc_s_may_stand, od_s_may_stand, .func (PySem.W.fnOf "may_stand" "Standpoint.may_stand" (defArgs (sSN 1)) (defBody (sSN 1)) (defScope (sSN 1)) .none kV_s_may_stand dc_s_may_stand pm_s_may_stand an_s_may_stand cd_s_may_stand ct_s_may_stand), sl_s_may_stand⟩)
    (c_s_may_stand : PySem.W.codeIn K cd_s_may_stand "Standpoint.may_stand" = true)
    (k_s_may_stand : PySem.W.keepIn K (.ref f_s_may_stand) = true)
    (a_s_measure : PySem.W.findIn K (.ref cS) "measure" = some (some (.ref f_s_measure)))
    (i_s_measure : PySem.W.isFn K (.ref f_s_measure) = true)
    (l_s_measure : K.lookup f_s_measure = some ⟨oc_s_measure, od_s_measure, .func (PySem.W.fnOf "measure" "Standpoint.measure" (defArgs (sSN 2)) (defBody (sSN 2)) (defScope (sSN 2)) .none kV_s_measure dc_s_measure pm_s_measure an_s_measure cd_s_measure ct_s_measure), sl_s_measure⟩)
    (c_s_measure : PySem.W.codeIn K cd_s_measure "Standpoint.measure" = true)
    (k_s_measure : PySem.W.keepIn K (.ref f_s_measure) = true)
    (a_s_follow : PySem.W.findIn K (.ref cS) "follow" = some (some (.ref f_s_follow)))
    (i_s_follow : PySem.W.isFn K (.ref f_s_follow) = true)
    (l_s_follow : K.lookup f_s_follow = some ⟨oc_s_follow, od_s_follow, .func (PySem.W.fnOf "follow" "Standpoint.follow" (defArgs (sSN 3)) (defBody (sSN 3)) (defScope (sSN 3)) .none kV_s_follow dc_s_follow pm_s_follow an_s_follow cd_s_follow ct_s_follow), sl_s_follow⟩)
    (c_s_follow : PySem.W.codeIn K cd_s_follow "Standpoint.follow" = true)
    (k_s_follow : PySem.W.keepIn K (.ref f_s_follow) = true)
    (ar : PySem.W.nsIn K mainGlobals "Row" = some (some (.ref cR)))
    (pgr : PySem.W.plainGet K cR Str.empty = true)
    (hdr : PySem.W.hasDictIn K cR = true)
    (por : PySem.W.plainOver K cR = true)
    (sar : PySem.W.findIn K (.ref cR) "__setattr__" = some (some (.builtin "object.__setattr__")))
    (mkr : PySem.W.makesIn K cR = true)
    (kcr : PySem.W.keepIn K (.ref cR) = true)
    (nr_steps : PySem.W.findIn K (.ref cR) "steps" = some none)
    (nr_reach : PySem.W.findIn K (.ref cR) "reach" = some none)
    (nr_reach_after : PySem.W.findIn K (.ref cR) "reach_after" = some none)
    (a_r_init : PySem.W.findIn K (.ref cR) "__init__" = some (some (.ref f_r_init)))
    (i_r_init : PySem.W.isFn K (.ref f_r_init) = true)
    (l_r_init : K.lookup f_r_init = some ⟨oc_r_init, od_r_init, .func (PySem.W.fnOf "__init__" "Row.__init__" (defArgs (sRN 0)) (defBody (sRN 0)) (defScope (sRN 0)) .none kV_r_init dc_r_init pm_r_init an_r_init cd_r_init ct_r_init), sl_r_init⟩)
    (c_r_init : PySem.W.codeIn K cd_r_init "Row.__init__" = true)
    (k_r_init : PySem.W.keepIn K (.ref f_r_init) = true)
    (a_r_measure : PySem.W.findIn K (.ref cR) "measure" = some (some (.ref f_r_measure)))
    (i_r_measure : PySem.W.isFn K (.ref f_r_measure) = true)
    (l_r_measure : K.lookup f_r_measure = some ⟨oc_r_measure, od_r_measure, .func (PySem.W.fnOf "measure" "Row.measure" (defArgs (sRN 1)) (defBody (sRN 1)) (defScope (sRN 1)) .none kV_r_measure dc_r_measure pm_r_measure an_r_measure cd_r_measure ct_r_measure), sl_r_measure⟩)
    (c_r_measure : PySem.W.codeIn K cd_r_measure "Row.measure" = true)
    (k_r_measure : PySem.W.keepIn K (.ref f_r_measure) = true)
    (a_r_follow : PySem.W.findIn K (.ref cR) "follow" = some (some (.ref f_r_follow)))
    (i_r_follow : PySem.W.isFn K (.ref f_r_follow) = true)
    (l_r_follow : K.lookup f_r_follow = some ⟨oc_r_follow, od_r_follow, .func (PySem.W.fnOf "follow" "Row.follow" (defArgs (sRN 2)) (defBody (sRN 2)) (defScope (sRN 2)) .none kV_r_follow dc_r_follow pm_r_follow an_r_follow cd_r_follow ct_r_follow), sl_r_follow⟩)
    (c_r_follow : PySem.W.codeIn K cd_r_follow "Row.follow" = true)
    (k_r_follow : PySem.W.keepIn K (.ref f_r_follow) = true)
    (ac : PySem.W.nsIn K mainGlobals "Choice" = some (some (.ref cC)))
    (pgc : PySem.W.plainGet K cC Str.empty = true)
    (hdc : PySem.W.hasDictIn K cC = true)
    (poc : PySem.W.plainOver K cC = true)
    (sac : PySem.W.findIn K (.ref cC) "__setattr__" = some (some (.builtin "object.__setattr__")))
    (mkc : PySem.W.makesIn K cC = true)
    (kcc : PySem.W.keepIn K (.ref cC) = true)
    (nc_rows : PySem.W.findIn K (.ref cC) "rows" = some none)
    (nc_reach : PySem.W.findIn K (.ref cC) "reach" = some none)
    (a_c_init : PySem.W.findIn K (.ref cC) "__init__" = some (some (.ref f_c_init)))
    (i_c_init : PySem.W.isFn K (.ref f_c_init) = true)
    (l_c_init : K.lookup f_c_init = some ⟨oc_c_init, od_c_init, .func (PySem.W.fnOf "__init__" "Choice.__init__" (defArgs (sCN 0)) (defBody (sCN 0)) (defScope (sCN 0)) .none kV_c_init dc_c_init pm_c_init an_c_init cd_c_init ct_c_init), sl_c_init⟩)
    (c_c_init : PySem.W.codeIn K cd_c_init "Choice.__init__" = true)
    (k_c_init : PySem.W.keepIn K (.ref f_c_init) = true)
    (a_c_measure : PySem.W.findIn K (.ref cC) "measure" = some (some (.ref f_c_measure)))
    (i_c_measure : PySem.W.isFn K (.ref f_c_measure) = true)
    (l_c_measure : K.lookup f_c_measure = some ⟨oc_c_measure, od_c_measure, .func (PySem.W.fnOf "measure" "Choice.measure" (defArgs (sCN 1)) (defBody (sCN 1)) (defScope (sCN 1)) .none kV_c_measure dc_c_measure pm_c_measure an_c_measure cd_c_measure ct_c_measure), sl_c_measure⟩)
    (c_c_measure : PySem.W.codeIn K cd_c_measure "Choice.measure" = true)
    (k_c_measure : PySem.W.keepIn K (.ref f_c_measure) = true)
    (a_c_follow : PySem.W.findIn K (.ref cC) "follow" = some (some (.ref f_c_follow)))
    (i_c_follow : PySem.W.isFn K (.ref f_c_follow) = true)
    (l_c_follow : K.lookup f_c_follow = some ⟨oc_c_follow, od_c_follow, .func (PySem.W.fnOf "follow" "Choice.follow" (defArgs (sCN 2)) (defBody (sCN 2)) (defScope (sCN 2)) .none kV_c_follow dc_c_follow pm_c_follow an_c_follow cd_c_follow ct_c_follow), sl_c_follow⟩)
    (c_c_follow : PySem.W.codeIn K cd_c_follow "Choice.follow" = true)
    (k_c_follow : PySem.W.keepIn K (.ref f_c_follow) = true)
    (ap : PySem.W.nsIn K mainGlobals "Repetition" = some (some (.ref cP)))
    (pgp : PySem.W.plainGet K cP Str.empty = true)
    (hdp : PySem.W.hasDictIn K cP = true)
    (pop : PySem.W.plainOver K cP = true)
    (sap : PySem.W.findIn K (.ref cP) "__setattr__" = some (some (.builtin "object.__setattr__")))
    (mkp : PySem.W.makesIn K cP = true)
    (kcp : PySem.W.keepIn K (.ref cP) = true)
    (np_body : PySem.W.findIn K (.ref cP) "body" = some none)
    (np_least : PySem.W.findIn K (.ref cP) "least" = some none)
    (np_most : PySem.W.findIn K (.ref cP) "most" = some none)
    (np_reach : PySem.W.findIn K (.ref cP) "reach" = some none)
    (np_reach_after : PySem.W.findIn K (.ref cP) "reach_after" = some none)
    (a_p_init : PySem.W.findIn K (.ref cP) "__init__" = some (some (.ref f_p_init)))
    (i_p_init : PySem.W.isFn K (.ref f_p_init) = true)
    (l_p_init : K.lookup f_p_init = some ⟨oc_p_init, od_p_init, .func (PySem.W.fnOf "__init__" "Repetition.__init__" (defArgs (sPN 0)) (defBody (sPN 0)) (defScope (sPN 0)) .none kV_p_init dc_p_init pm_p_init an_p_init cd_p_init ct_p_init), sl_p_init⟩)
    (c_p_init : PySem.W.codeIn K cd_p_init "Repetition.__init__" = true)
    (k_p_init : PySem.W.keepIn K (.ref f_p_init) = true)
    (a_p_measure : PySem.W.findIn K (.ref cP) "measure" = some (some (.ref f_p_measure)))
    (i_p_measure : PySem.W.isFn K (.ref f_p_measure) = true)
    (l_p_measure : K.lookup f_p_measure = some ⟨oc_p_measure, od_p_measure, .func (PySem.W.fnOf "measure" "Repetition.measure" (defArgs (sPN 1)) (defBody (sPN 1)) (defScope (sPN 1)) .none kV_p_measure dc_p_measure pm_p_measure an_p_measure cd_p_measure ct_p_measure), sl_p_measure⟩)
    (c_p_measure : PySem.W.codeIn K cd_p_measure "Repetition.measure" = true)
    (k_p_measure : PySem.W.keepIn K (.ref f_p_measure) = true)
    (a_p_one_time_before : PySem.W.findIn K (.ref cP) "one_time_before" = some (some (.ref f_p_one_time_before)))
    (i_p_one_time_before : PySem.W.isFn K (.ref f_p_one_time_before) = true)
    (l_p_one_time_before : K.lookup f_p_one_time_before = some ⟨oc_p_one_time_before, od_p_one_time_before, .func (PySem.W.fnOf "one_time_before" "Repetition.one_time_before" (defArgs (sPN 2)) (defBody (sPN 2)) (defScope (sPN 2)) .none kV_p_one_time_before dc_p_one_time_before pm_p_one_time_before an_p_one_time_before cd_p_one_time_before ct_p_one_time_before), sl_p_one_time_before⟩)
    (c_p_one_time_before : PySem.W.codeIn K cd_p_one_time_before "Repetition.one_time_before" = true)
    (k_p_one_time_before : PySem.W.keepIn K (.ref f_p_one_time_before) = true)
    (a_p_wanted_next : PySem.W.findIn K (.ref cP) "wanted_next" = some (some (.ref f_p_wanted_next)))
    (i_p_wanted_next : PySem.W.isFn K (.ref f_p_wanted_next) = true)
    (l_p_wanted_next : K.lookup f_p_wanted_next = some ⟨oc_p_wanted_next, od_p_wanted_next, .func (PySem.W.fnOf "wanted_next" "Repetition.wanted_next" (defArgs (sPN 3)) (defBody (sPN 3)) (defScope (sPN 3)) .none kV_p_wanted_next dc_p_wanted_next pm_p_wanted_next an_p_wanted_next cd_p_wanted_next ct_p_wanted_next), sl_p_wanted_next⟩)
    (c_p_wanted_next : PySem.W.codeIn K cd_p_wanted_next "Repetition.wanted_next" = true)
    (k_p_wanted_next : PySem.W.keepIn K (.ref f_p_wanted_next) = true)
    (a_p_follow : PySem.W.findIn K (.ref cP) "follow" = some (some (.ref f_p_follow)))
    (i_p_follow : PySem.W.isFn K (.ref f_p_follow) = true)
    (l_p_follow : K.lookup f_p_follow = some ⟨oc_p_follow, od_p_follow, .func (PySem.W.fnOf "follow" "Repetition.follow" (defArgs (sPN 4)) (defBody (sPN 4)) (defScope (sPN 4)) .none kV_p_follow dc_p_follow pm_p_follow an_p_follow cd_p_follow ct_p_follow), sl_p_follow⟩)
    (c_p_follow : PySem.W.codeIn K cd_p_follow "Repetition.follow" = true)
    (k_p_follow : PySem.W.keepIn K (.ref f_p_follow) = true)
    (ak : PySem.W.nsIn K mainGlobals "Capture" = some (some (.ref cK)))
    (pgk : PySem.W.plainGet K cK Str.empty = true)
    (hdk : PySem.W.hasDictIn K cK = true)
    (pok : PySem.W.plainOver K cK = true)
    (sak : PySem.W.findIn K (.ref cK) "__setattr__" = some (some (.builtin "object.__setattr__")))
    (mkk : PySem.W.makesIn K cK = true)
    (kck : PySem.W.keepIn K (.ref cK) = true)
    (nk_number : PySem.W.findIn K (.ref cK) "number" = some none)
    (nk_body : PySem.W.findIn K (.ref cK) "body" = some none)
    (nk_reach : PySem.W.findIn K (.ref cK) "reach" = some none)
    (a_k_init : PySem.W.findIn K (.ref cK) "__init__" = some (some (.ref f_k_init)))
    (i_k_init : PySem.W.isFn K (.ref f_k_init) = true)
    (l_k_init : K.lookup f_k_init = some ⟨oc_k_init, od_k_init, .func (PySem.W.fnOf "__init__" "Capture.__init__" (defArgs (sKN 0)) (defBody (sKN 0)) (defScope (sKN 0)) .none kV_k_init dc_k_init pm_k_init an_k_init cd_k_init ct_k_init), sl_k_init⟩)
    (c_k_init : PySem.W.codeIn K cd_k_init "Capture.__init__" = true)
    (k_k_init : PySem.W.keepIn K (.ref f_k_init) = true)
    (a_k_measure : PySem.W.findIn K (.ref cK) "measure" = some (some (.ref f_k_measure)))
    (i_k_measure : PySem.W.isFn K (.ref f_k_measure) = true)
    (l_k_measure : K.lookup f_k_measure = some ⟨oc_k_measure, od_k_measure, .func (PySem.W.fnOf "measure" "Capture.measure" (defArgs (sKN 1)) (defBody (sKN 1)) (defScope (sKN 1)) .none kV_k_measure dc_k_measure pm_k_measure an_k_measure cd_k_measure ct_k_measure), sl_k_measure⟩)
    (c_k_measure : PySem.W.codeIn K cd_k_measure "Capture.measure" = true)
    (k_k_measure : PySem.W.keepIn K (.ref f_k_measure) = true)
    (a_k_follow : PySem.W.findIn K (.ref cK) "follow" = some (some (.ref f_k_follow)))
    (i_k_follow : PySem.W.isFn K (.ref f_k_follow) = true)
    (l_k_follow : K.lookup f_k_follow = some ⟨oc_k_follow, od_k_follow, .func (PySem.W.fnOf "follow" "Capture.follow" (defArgs (sKN 2)) (defBody (sKN 2)) (defScope (sKN 2)) .none kV_k_follow dc_k_follow pm_k_follow an_k_follow cd_k_follow ct_k_follow), sl_k_follow⟩)
    (c_k_follow : PySem.W.codeIn K cd_k_follow "Capture.follow" = true)
    (k_k_follow : PySem.W.keepIn K (.ref f_k_follow) = true)
    (aT : PySem.W.nsIn K mainGlobals "Text" = some (some (.ref CT)))
    (pgT : PySem.W.plainGet K CT Str.empty = true)
    (hdT : PySem.W.hasDictIn K CT = true)
    (poT : PySem.W.plainOver K CT = true)
    (saT : PySem.W.findIn K (.ref CT) "__setattr__" = some (some (.builtin "object.__setattr__")))
    (mkT : PySem.W.makesIn K CT = true)
    (kcT : PySem.W.keepIn K (.ref CT) = true)
    (nT_scalars : PySem.W.findIn K (.ref CT) "scalars" = some none)
    (nT_first_bytes : PySem.W.findIn K (.ref CT) "first_bytes" = some none)
    (a_T_init : PySem.W.findIn K (.ref CT) "__init__" = some (some (.ref f_T_init)))
    (i_T_init : PySem.W.isFn K (.ref f_T_init) = true)
    (l_T_init : K.lookup f_T_init = some ⟨oc_T_init, od_T_init, .func (PySem.W.fnOf "__init__" "Text.__init__" (defArgs (sT 0)) (defBody (sT 0)) (defScope (sT 0)) .none kV_T_init dc_T_init pm_T_init an_T_init cd_T_init ct_T_init), sl_T_init⟩)
    (c_T_init : PySem.W.codeIn K cd_T_init "Text.__init__" = true)
    (k_T_init : PySem.W.keepIn K (.ref f_T_init) = true)
    (a_T_end_place : PySem.W.findIn K (.ref CT) "end_place" = some (some (.ref f_T_end_place)))
    (i_T_end_place : PySem.W.isFn K (.ref f_T_end_place) = true)
    (l_T_end_place : K.lookup f_T_end_place = some ⟨oc_T_end_place, od_T_end_place, .func (PySem.W.fnOf "end_place" "Text.end_place" (defArgs (sT 1)) (defBody (sT 1)) (defScope (sT 1)) .none kV_T_end_place dc_T_end_place pm_T_end_place an_T_end_place cd_T_end_place ct_T_end_place), sl_T_end_place⟩)
    (c_T_end_place : PySem.W.codeIn K cd_T_end_place "Text.end_place" = true)
    (k_T_end_place : PySem.W.keepIn K (.ref f_T_end_place) = true)
    (a_T_has_word_value : PySem.W.findIn K (.ref CT) "has_word_value" = some (some (.ref f_T_has_word_value)))
    (i_T_has_word_value : PySem.W.isFn K (.ref f_T_has_word_value) = true)
    (l_T_has_word_value : K.lookup f_T_has_word_value = some ⟨oc_T_has_word_value, od_T_has_word_value, .func (PySem.W.fnOf "has_word_value" "Text.has_word_value" (defArgs (sT 2)) (defBody (sT 2)) (defScope (sT 2)) .none kV_T_has_word_value dc_T_has_word_value pm_T_has_word_value an_T_has_word_value cd_T_has_word_value ct_T_has_word_value), sl_T_has_word_value⟩)
    (c_T_has_word_value : PySem.W.codeIn K cd_T_has_word_value "Text.has_word_value" = true)
    (k_T_has_word_value : PySem.W.keepIn K (.ref f_T_has_word_value) = true)
    (a_T_is_word_edge : PySem.W.findIn K (.ref CT) "is_word_edge" = some (some (.ref f_T_is_word_edge)))
    (i_T_is_word_edge : PySem.W.isFn K (.ref f_T_is_word_edge) = true)
    (l_T_is_word_edge : K.lookup f_T_is_word_edge = some ⟨oc_T_is_word_edge, od_T_is_word_edge, .func (PySem.W.fnOf "is_word_edge" "Text.is_word_edge" (defArgs (sT 3)) (defBody (sT 3)) (defScope (sT 3)) .none kV_T_is_word_edge dc_T_is_word_edge pm_T_is_word_edge an_T_is_word_edge cd_T_is_word_edge ct_T_is_word_edge), sl_T_is_word_edge⟩)
    (c_T_is_word_edge : PySem.W.codeIn K cd_T_is_word_edge "Text.is_word_edge" = true)
    (k_T_is_word_edge : PySem.W.keepIn K (.ref f_T_is_word_edge) = true)
    (a_T_in_bytes : PySem.W.findIn K (.ref CT) "in_bytes" = some (some (.ref f_T_in_bytes)))
    (i_T_in_bytes : PySem.W.isFn K (.ref f_T_in_bytes) = true)
    (l_T_in_bytes : K.lookup f_T_in_bytes = some ⟨oc_T_in_bytes, od_T_in_bytes, .func (PySem.W.fnOf "in_bytes" "Text.in_bytes" (defArgs (sT 4)) (defBody (sT 4)) (defScope (sT 4)) .none kV_T_in_bytes dc_T_in_bytes pm_T_in_bytes an_T_in_bytes cd_T_in_bytes ct_T_in_bytes), sl_T_in_bytes⟩)
    (c_T_in_bytes : PySem.W.codeIn K cd_T_in_bytes "Text.in_bytes" = true)
    (k_T_in_bytes : PySem.W.keepIn K (.ref f_T_in_bytes) = true)
    (aS : PySem.W.nsIn K mainGlobals "Search" = some (some (.ref CS)))
    (pgS : PySem.W.plainGet K CS Str.empty = true)
    (hdS : PySem.W.hasDictIn K CS = true)
    (poS : PySem.W.plainOver K CS = true)
    (saS : PySem.W.findIn K (.ref CS) "__setattr__" = some (some (.builtin "object.__setattr__")))
    (mkS : PySem.W.makesIn K CS = true)
    (kcS : PySem.W.keepIn K (.ref CS) = true)
    (nS_pattern : PySem.W.findIn K (.ref CS) "pattern" = some none)
    (nS_text : PySem.W.findIn K (.ref CS) "text" = some none)
    (a_S_init : PySem.W.findIn K (.ref CS) "__init__" = some (some (.ref f_S_init)))
    (i_S_init : PySem.W.isFn K (.ref f_S_init) = true)
    (l_S_init : K.lookup f_S_init = some ⟨oc_S_init, od_S_init, .func (PySem.W.fnOf "__init__" "Search.__init__" (defArgs (sS 0)) (defBody (sS 0)) (defScope (sS 0)) .none kV_S_init dc_S_init pm_S_init an_S_init cd_S_init ct_S_init), sl_S_init⟩)
    (c_S_init : PySem.W.codeIn K cd_S_init "Search.__init__" = true)
    (k_S_init : PySem.W.keepIn K (.ref f_S_init) = true)
    (a_S_first_match : PySem.W.findIn K (.ref CS) "first_match" = some (some (.ref f_S_first_match)))
    (i_S_first_match : PySem.W.isFn K (.ref f_S_first_match) = true)
    (l_S_first_match : K.lookup f_S_first_match = some ⟨oc_S_first_match, od_S_first_match, .func (PySem.W.fnOf "first_match" "Search.first_match" (defArgs (sS 2)) (defBody (sS 2)) (defScope (sS 2)) .none kV_S_first_match dc_S_first_match pm_S_first_match an_S_first_match cd_S_first_match ct_S_first_match), sl_S_first_match⟩)
    (c_S_first_match : PySem.W.codeIn K cd_S_first_match "Search.first_match" = true)
    (k_S_first_match : PySem.W.keepIn K (.ref f_S_first_match) = true)
    (a_S_captures : PySem.W.findIn K (.ref CS) "captures" = some (some (.ref f_S_captures)))
    (i_S_captures : PySem.W.isFn K (.ref f_S_captures) = true)
    (l_S_captures : K.lookup f_S_captures = some ⟨oc_S_captures, od_S_captures, .func (PySem.W.fnOf "captures" "Search.captures" (defArgs (sS 5)) (defBody (sS 5)) (defScope (sS 5)) .none kV_S_captures dc_S_captures pm_S_captures an_S_captures cd_S_captures ct_S_captures), sl_S_captures⟩)
    (c_S_captures : PySem.W.codeIn K cd_S_captures "Search.captures" = true)
    (k_S_captures : PySem.W.keepIn K (.ref f_S_captures) = true)
    (a_S_spans : PySem.W.findIn K (.ref CS) "spans" = some (some (.ref f_S_spans)))
    (i_S_spans : PySem.W.isFn K (.ref f_S_spans) = true)
    (l_S_spans : K.lookup f_S_spans = some ⟨oc_S_spans, od_S_spans, .func (PySem.W.fnOf "spans" "Search.spans" (defArgs (sS 6)) (defBody (sS 6)) (defScope (sS 6)) .none kV_S_spans dc_S_spans pm_S_spans an_S_spans cd_S_spans ct_S_spans), sl_S_spans⟩)
    (c_S_spans : PySem.W.codeIn K cd_S_spans "Search.spans" = true)
    (k_S_spans : PySem.W.keepIn K (.ref f_S_spans) = true)
    (a_just_one : PySem.W.nsIn K mainGlobals "just_one" = some (some (.ref f_just_one)))
    (l_just_one : K.lookup f_just_one = some ⟨oc_just_one, od_just_one, .func (PySem.W.fnOf "just_one" "just_one" (defArgs (top i_just_one)) (defBody (top i_just_one)) (defScope (top i_just_one)) .none kV_just_one dc_just_one pm_just_one an_just_one cd_just_one ct_just_one), sl_just_one⟩)
    (c_just_one : PySem.W.codeIn K cd_just_one "just_one" = true)
    (k_just_one : PySem.W.keepIn K (.ref f_just_one) = true)
    (a_is_just_one : PySem.W.nsIn K mainGlobals "is_just_one" = some (some (.ref f_is_just_one)))
    (l_is_just_one : K.lookup f_is_just_one = some ⟨oc_is_just_one, od_is_just_one, .func (PySem.W.fnOf "is_just_one" "is_just_one" (defArgs (top i_is_just_one)) (defBody (top i_is_just_one)) (defScope (top i_is_just_one)) .none kV_is_just_one dc_is_just_one pm_is_just_one an_is_just_one cd_is_just_one ct_is_just_one), sl_is_just_one⟩)
    (c_is_just_one : PySem.W.codeIn K cd_is_just_one "is_just_one" = true)
    (k_is_just_one : PySem.W.keepIn K (.ref f_is_just_one) = true)
    (a_every_value : PySem.W.nsIn K mainGlobals "every_value" = some (some (.ref f_every_value)))
    (l_every_value : K.lookup f_every_value = some ⟨oc_every_value, od_every_value, .func (PySem.W.fnOf "every_value" "every_value" (defArgs (top i_every_value)) (defBody (top i_every_value)) (defScope (top i_every_value)) .none kV_every_value dc_every_value pm_every_value an_every_value cd_every_value ct_every_value), sl_every_value⟩)
    (c_every_value : PySem.W.codeIn K cd_every_value "every_value" = true)
    (k_every_value : PySem.W.keepIn K (.ref f_every_value) = true)
    (a_all_but : PySem.W.nsIn K mainGlobals "all_but" = some (some (.ref f_all_but)))
    (l_all_but : K.lookup f_all_but = some ⟨oc_all_but, od_all_but, .func (PySem.W.fnOf "all_but" "all_but" (defArgs (top i_all_but)) (defBody (top i_all_but)) (defScope (top i_all_but)) .none kV_all_but dc_all_but pm_all_but an_all_but cd_all_but ct_all_but), sl_all_but⟩)
    (c_all_but : PySem.W.codeIn K cd_all_but "all_but" = true)
    (k_all_but : PySem.W.keepIn K (.ref f_all_but) = true)
    (a_listed_ranges : PySem.W.nsIn K mainGlobals "listed_ranges" = some (some (.ref f_listed_ranges)))
    (l_listed_ranges : K.lookup f_listed_ranges = some ⟨oc_listed_ranges, od_listed_ranges, .func (PySem.W.fnOf "listed_ranges" "listed_ranges" (defArgs (top i_listed_ranges)) (defBody (top i_listed_ranges)) (defScope (top i_listed_ranges)) .none kV_listed_ranges dc_listed_ranges pm_listed_ranges an_listed_ranges cd_listed_ranges ct_listed_ranges), sl_listed_ranges⟩)
    (c_listed_ranges : PySem.W.codeIn K cd_listed_ranges "listed_ranges" = true)
    (k_listed_ranges : PySem.W.keepIn K (.ref f_listed_ranges) = true)
    (a_row_of : PySem.W.nsIn K mainGlobals "row_of" = some (some (.ref f_row_of)))
    (l_row_of : K.lookup f_row_of = some ⟨oc_row_of, od_row_of, .func (PySem.W.fnOf "row_of" "row_of" (defArgs (top i_row_of)) (defBody (top i_row_of)) (defScope (top i_row_of)) .none kV_row_of dc_row_of pm_row_of an_row_of cd_row_of ct_row_of), sl_row_of⟩)
    (c_row_of : PySem.W.codeIn K cd_row_of "row_of" = true)
    (k_row_of : PySem.W.keepIn K (.ref f_row_of) = true)
    (a_choice_of : PySem.W.nsIn K mainGlobals "choice_of" = some (some (.ref f_choice_of)))
    (l_choice_of : K.lookup f_choice_of = some ⟨oc_choice_of, od_choice_of, .func (PySem.W.fnOf "choice_of" "choice_of" (defArgs (top i_choice_of)) (defBody (top i_choice_of)) (defScope (top i_choice_of)) .none kV_choice_of dc_choice_of pm_choice_of an_choice_of cd_choice_of ct_choice_of), sl_choice_of⟩)
    (c_choice_of : PySem.W.codeIn K cd_choice_of "choice_of" = true)
    (k_choice_of : PySem.W.keepIn K (.ref f_choice_of) = true)
    (a_following_bytes : PySem.W.nsIn K mainGlobals "following_bytes" = some (some (.ref f_following_bytes)))
    (l_following_bytes : K.lookup f_following_bytes = some ⟨oc_following_bytes, od_following_bytes, .func (PySem.W.fnOf "following_bytes" "following_bytes" (defArgs (top i_following_bytes)) (defBody (top i_following_bytes)) (defScope (top i_following_bytes)) .none kV_following_bytes dc_following_bytes pm_following_bytes an_following_bytes cd_following_bytes ct_following_bytes), sl_following_bytes⟩)
    (c_following_bytes : PySem.W.codeIn K cd_following_bytes "following_bytes" = true)
    (k_following_bytes : PySem.W.keepIn K (.ref f_following_bytes) = true)
    (a_scalar_at : PySem.W.nsIn K mainGlobals "scalar_at" = some (some (.ref f_scalar_at)))
    (l_scalar_at : K.lookup f_scalar_at = some ⟨oc_scalar_at, od_scalar_at, .func (PySem.W.fnOf "scalar_at" "scalar_at" (defArgs (top i_scalar_at)) (defBody (top i_scalar_at)) (defScope (top i_scalar_at)) .none kV_scalar_at dc_scalar_at pm_scalar_at an_scalar_at cd_scalar_at ct_scalar_at), sl_scalar_at⟩)
    (c_scalar_at : PySem.W.codeIn K cd_scalar_at "scalar_at" = true)
    (k_scalar_at : PySem.W.keepIn K (.ref f_scalar_at) = true)
    (a_escape_ranges : PySem.W.nsIn K mainGlobals "escape_ranges" = some (some (.ref f_escape_ranges)))
    (l_escape_ranges : K.lookup f_escape_ranges = some ⟨oc_escape_ranges, od_escape_ranges, .func (PySem.W.fnOf "escape_ranges" "escape_ranges" (defArgs (top i_escape_ranges)) (defBody (top i_escape_ranges)) (defScope (top i_escape_ranges)) .none kV_escape_ranges dc_escape_ranges pm_escape_ranges an_escape_ranges cd_escape_ranges ct_escape_ranges), sl_escape_ranges⟩)
    (c_escape_ranges : PySem.W.codeIn K cd_escape_ranges "escape_ranges" = true)
    (k_escape_ranges : PySem.W.keepIn K (.ref f_escape_ranges) = true)
    (a_names_in : PySem.W.nsIn K mainGlobals "names_in" = some (some (.ref f_names_in)))
    (l_names_in : K.lookup f_names_in = some ⟨oc_names_in, od_names_in, .func (PySem.W.fnOf "names_in" "names_in" (defArgs (top i_names_in)) (defBody (top i_names_in)) (defScope (top i_names_in)) .none kV_names_in dc_names_in pm_names_in an_names_in cd_names_in ct_names_in), sl_names_in⟩)
    (c_names_in : PySem.W.codeIn K cd_names_in "names_in" = true)
    (k_names_in : PySem.W.keepIn K (.ref f_names_in) = true)
    (a_read_pattern : PySem.W.nsIn K mainGlobals "read_pattern" = some (some (.ref f_read_pattern)))
    (l_read_pattern : K.lookup f_read_pattern = some ⟨oc_read_pattern, od_read_pattern, .func (PySem.W.fnOf "read_pattern" "read_pattern" (defArgs (top i_read_pattern)) (defBody (top i_read_pattern)) (defScope (top i_read_pattern)) .none kV_read_pattern dc_read_pattern pm_read_pattern an_read_pattern cd_read_pattern ct_read_pattern), sl_read_pattern⟩)
    (c_read_pattern : PySem.W.codeIn K cd_read_pattern "read_pattern" = true)
    (k_read_pattern : PySem.W.keepIn K (.ref f_read_pattern) = true)
    (a_only : PySem.W.nsIn K mainGlobals "only" = some (some (.ref f_only)))
    (l_only : K.lookup f_only = some ⟨oc_only, od_only, .func (PySem.W.fnOf "only" "only" (defArgs (top i_only)) (defBody (top i_only)) (defScope (top i_only)) .none kV_only dc_only pm_only an_only cd_only ct_only), sl_only⟩)
    (c_only : PySem.W.codeIn K cd_only "only" = true)
    (k_only : PySem.W.keepIn K (.ref f_only) = true)
    (a_lowest_place : PySem.W.nsIn K mainGlobals "lowest_place" = some (some (.ref f_lowest_place)))
    (l_lowest_place : K.lookup f_lowest_place = some ⟨oc_lowest_place, od_lowest_place, .func (PySem.W.fnOf "lowest_place" "lowest_place" (defArgs (top i_lowest_place)) (defBody (top i_lowest_place)) (defScope (top i_lowest_place)) .none kV_lowest_place dc_lowest_place pm_lowest_place an_lowest_place cd_lowest_place ct_lowest_place), sl_lowest_place⟩)
    (c_lowest_place : PySem.W.codeIn K cd_lowest_place "lowest_place" = true)
    (k_lowest_place : PySem.W.keepIn K (.ref f_lowest_place) = true)
    (a_highest_place : PySem.W.nsIn K mainGlobals "highest_place" = some (some (.ref f_highest_place)))
    (l_highest_place : K.lookup f_highest_place = some ⟨oc_highest_place, od_highest_place, .func (PySem.W.fnOf "highest_place" "highest_place" (defArgs (top i_highest_place)) (defBody (top i_highest_place)) (defScope (top i_highest_place)) .none kV_highest_place dc_highest_place pm_highest_place an_highest_place cd_highest_place ct_highest_place), sl_highest_place⟩)
    (c_highest_place : PySem.W.codeIn K cd_highest_place "highest_place" = true)
    (k_highest_place : PySem.W.keepIn K (.ref f_highest_place) = true)
    (a_without : PySem.W.nsIn K mainGlobals "without" = some (some (.ref f_without)))
    (l_without : K.lookup f_without = some ⟨oc_without, od_without, .func (PySem.W.fnOf "without" "without" (defArgs (top i_without)) (defBody (top i_without)) (defScope (top i_without)) .none kV_without dc_without pm_without an_without cd_without ct_without), sl_without⟩)
    (c_without : PySem.W.codeIn K cd_without "without" = true)
    (k_without : PySem.W.keepIn K (.ref f_without) = true)
    (a_staying : PySem.W.nsIn K mainGlobals "staying" = some (some (.ref f_staying)))
    (l_staying : K.lookup f_staying = some ⟨oc_staying, od_staying, .func (PySem.W.fnOf "staying" "staying" (defArgs (top i_staying)) (defBody (top i_staying)) (defScope (top i_staying)) .none kV_staying dc_staying pm_staying an_staying cd_staying ct_staying), sl_staying⟩)
    (c_staying : PySem.W.codeIn K cd_staying "staying" = true)
    (k_staying : PySem.W.keepIn K (.ref f_staying) = true)
    (a_reached_from : PySem.W.nsIn K mainGlobals "reached_from" = some (some (.ref f_reached_from)))
    (l_reached_from : K.lookup f_reached_from = some ⟨oc_reached_from, od_reached_from, .func (PySem.W.fnOf "reached_from" "reached_from" (defArgs (top i_reached_from)) (defBody (top i_reached_from)) (defScope (top i_reached_from)) .none kV_reached_from dc_reached_from pm_reached_from an_reached_from cd_reached_from ct_reached_from), sl_reached_from⟩)
    (c_reached_from : PySem.W.codeIn K cd_reached_from "reached_from" = true)
    (k_reached_from : PySem.W.keepIn K (.ref f_reached_from) = true)
    (a_one_behind_other : PySem.W.nsIn K mainGlobals "one_behind_other" = some (some (.ref f_one_behind_other)))
    (l_one_behind_other : K.lookup f_one_behind_other = some ⟨oc_one_behind_other, od_one_behind_other, .func (PySem.W.fnOf "one_behind_other" "one_behind_other" (defArgs (top i_one_behind_other)) (defBody (top i_one_behind_other)) (defScope (top i_one_behind_other)) .none kV_one_behind_other dc_one_behind_other pm_one_behind_other an_one_behind_other cd_one_behind_other ct_one_behind_other), sl_one_behind_other⟩)
    (c_one_behind_other : PySem.W.codeIn K cd_one_behind_other "one_behind_other" = true)
    (k_one_behind_other : PySem.W.keepIn K (.ref f_one_behind_other) = true)
    (a_any_times_onward : PySem.W.nsIn K mainGlobals "any_times_onward" = some (some (.ref f_any_times_onward)))
    (l_any_times_onward : K.lookup f_any_times_onward = some ⟨oc_any_times_onward, od_any_times_onward, .func (PySem.W.fnOf "any_times_onward" "any_times_onward" (defArgs (top i_any_times_onward)) (defBody (top i_any_times_onward)) (defScope (top i_any_times_onward)) .none kV_any_times_onward dc_any_times_onward pm_any_times_onward an_any_times_onward cd_any_times_onward ct_any_times_onward), sl_any_times_onward⟩)
    (c_any_times_onward : PySem.W.codeIn K cd_any_times_onward "any_times_onward" = true)
    (k_any_times_onward : PySem.W.keepIn K (.ref f_any_times_onward) = true)
    (a_have_value : PySem.W.nsIn K mainGlobals "have_value" = some (some (.ref f_have_value)))
    (l_have_value : K.lookup f_have_value = some ⟨oc_have_value, od_have_value, .func (PySem.W.fnOf "have_value" "have_value" (defArgs (top i_have_value)) (defBody (top i_have_value)) (defScope (top i_have_value)) .none kV_have_value dc_have_value pm_have_value an_have_value cd_have_value ct_have_value), sl_have_value⟩)
    (c_have_value : PySem.W.codeIn K cd_have_value "have_value" = true)
    (k_have_value : PySem.W.keepIn K (.ref f_have_value) = true)
    (a_is_word_value : PySem.W.nsIn K mainGlobals "is_word_value" = some (some (.ref f_is_word_value)))
    (l_is_word_value : K.lookup f_is_word_value = some ⟨oc_is_word_value, od_is_word_value, .func (PySem.W.fnOf "is_word_value" "is_word_value" (defArgs (top i_is_word_value)) (defBody (top i_is_word_value)) (defScope (top i_is_word_value)) .none kV_is_word_value dc_is_word_value pm_is_word_value an_is_word_value cd_is_word_value ct_is_word_value), sl_is_word_value⟩)
    (c_is_word_value : PySem.W.codeIn K cd_is_word_value "is_word_value" = true)
    (k_is_word_value : PySem.W.keepIn K (.ref f_is_word_value) = true)
    (a_search_of : PySem.W.nsIn K mainGlobals "search_of" = some (some (.ref f_search_of)))
    (l_search_of : K.lookup f_search_of = some ⟨oc_search_of, od_search_of, .func (PySem.W.fnOf "search_of" "search_of" (defArgs (top i_search_of)) (defBody (top i_search_of)) (defScope (top i_search_of)) .none kV_search_of dc_search_of pm_search_of an_search_of cd_search_of ct_search_of), sl_search_of⟩)
    (c_search_of : PySem.W.codeIn K cd_search_of "search_of" = true)
    (k_search_of : PySem.W.keepIn K (.ref f_search_of) = true)
    (a_leading_to : PySem.W.nsIn K mainGlobals "leading_to" = some (some (.ref f_leading_to)))
    (l_leading_to : K.lookup f_leading_to = some ⟨oc_leading_to, od_leading_to, .func (PySem.W.fnOf "leading_to" "leading_to" (defArgs (top i_leading_to)) (defBody (top i_leading_to)) (defScope (top i_leading_to)) .none kV_leading_to dc_leading_to pm_leading_to an_leading_to cd_leading_to ct_leading_to), sl_leading_to⟩)
    (c_leading_to : PySem.W.codeIn K cd_leading_to "leading_to" = true)
    (k_leading_to : PySem.W.keepIn K (.ref f_leading_to) = true)
    (a_find : PySem.W.nsIn K mainGlobals "find" = some (some (.ref f_find)))
    (l_find : K.lookup f_find = some ⟨oc_find, od_find, .func (PySem.W.fnOf "find" "find" (defArgs (top i_find)) (defBody (top i_find)) (defScope (top i_find)) .none kV_find dc_find pm_find an_find cd_find ct_find), sl_find⟩)
    (c_find : PySem.W.codeIn K cd_find "find" = true)
    (k_find : PySem.W.keepIn K (.ref f_find) = true)
    (aFT : PySem.W.nsIn K mainGlobals "Fault" = some (some (.ref CF)))
    (xLFT : K.lookup CF = some (excClassObj nmFT qFT CF NFT bsFT [.type "Exception", .type "BaseException", .type "object"] true snFT subFT abFT colFT ddFT m0FT m1FT m2FT m3FT m5FT "Exception.__new__"))
    (saFT : PySem.W.findIn K (.ref CF) "__setattr__" = some (some (.builtin "object.__setattr__")))
    (gaFT : PySem.W.findIn K (.ref CF) "__getattribute__" = some (some (.builtin "BaseException.__getattribute__")))
    (ggFT : PySem.W.findIn K (.ref CF) "__getattr__" = some none)
    (nFT_kind : PySem.W.findIn K (.ref CF) "kind" = some none)
    (nFT_place : PySem.W.findIn K (.ref CF) "place" = some none)
    (a1FT : PySem.W.findIn K (.ref CF) "__init__" = some (some (.ref fI)))
    (t1FT : PySem.W.typeIn K (.ref fI) = some (.type "function"))
    (l1FT : K.lookup fI = some ⟨oc1FT, od1FT, .func (PySem.W.fnOf "__init__" "Fault.__init__" (PySem.FaultX.iA ⟨14, 17, 14, 21⟩ ⟨14, 23, 14, 27⟩ ⟨14, 29, 14, 34⟩) (PySem.FaultX.iB ⟨15, 8, 15, 12⟩ ⟨15, 8, 15, 17⟩ ⟨15, 20, 15, 24⟩ ⟨15, 8, 15, 24⟩ ⟨16, 8, 16, 12⟩ ⟨16, 8, 16, 18⟩ ⟨16, 21, 16, 26⟩ ⟨16, 8, 16, 26⟩) PySem.FaultX.iS .none .none dc1FT pm1FT an1FT cd1FT ct1FT), sl1FT⟩)
    (c1FT : PySem.W.codeIn K cd1FT "Fault.__init__" = true)
    (kCFT : PySem.W.keepIn K (.ref CF) = true)
    (eCFT : PySem.W.subIn K (.ref CF) (.type "BaseException") = some true)
    (tCFT : PySem.W.typeIn K (.ref CF) = some (.type "type"))
    (hCFT : PySem.W.hasDictIn K CF = true)
    (iCFT : PySem.W.isClsIn K CF = true)
    (sCFT : PySem.W.subIn K (.ref CF) (.ref CF) = some true)
    (aRT : PySem.W.nsIn K mainGlobals "Refusal" = some (some (.ref CX)))
    (xLRT : K.lookup CX = some (excClassObj nmRT qRT CX NRT bsRT [.type "Exception", .type "BaseException", .type "object"] true snRT subRT abRT colRT ddRT m0RT m1RT m2RT m3RT m5RT "Exception.__new__"))
    (saRT : PySem.W.findIn K (.ref CX) "__setattr__" = some (some (.builtin "object.__setattr__")))
    (gaRT : PySem.W.findIn K (.ref CX) "__getattribute__" = some (some (.builtin "BaseException.__getattribute__")))
    (ggRT : PySem.W.findIn K (.ref CX) "__getattr__" = some none)
    (nRT_answer : PySem.W.findIn K (.ref CX) "answer" = some none)
    (a1RT : PySem.W.findIn K (.ref CX) "__init__" = some (some (.ref fX)))
    (t1RT : PySem.W.typeIn K (.ref fX) = some (.type "function"))
    (l1RT : K.lookup fX = some ⟨oc1RT, od1RT, .func (PySem.W.fnOf "__init__" "Refusal.__init__" (PySem.RefX.iA ⟨531, 17, 531, 21⟩ ⟨531, 23, 531, 29⟩) (PySem.RefX.iB ⟨532, 8, 532, 12⟩ ⟨532, 8, 532, 19⟩ ⟨532, 22, 532, 28⟩ ⟨532, 8, 532, 28⟩) PySem.RefX.iS .none .none dc1RT pm1RT an1RT cd1RT ct1RT), sl1RT⟩)
    (c1RT : PySem.W.codeIn K cd1RT "Refusal.__init__" = true)
    (kCRT : PySem.W.keepIn K (.ref CX) = true)
    (eCRT : PySem.W.subIn K (.ref CX) (.type "BaseException") = some true)
    (tCRT : PySem.W.typeIn K (.ref CX) = some (.type "type"))
    (hCRT : PySem.W.hasDictIn K CX = true)
    (iCRT : PySem.W.isClsIn K CX = true)
    (sCRT : PySem.W.subIn K (.ref CX) (.ref CX) = some true)
    (v_ENDS_TOO_SOON : PySem.W.nsIn K mainGlobals "ENDS_TOO_SOON" = some (some (.int (1) t_ENDS_TOO_SOON)))
    (v_CANNOT_STAND : PySem.W.nsIn K mainGlobals "CANNOT_STAND" = some (some (.int (2) t_CANNOT_STAND)))
    (v_NUMBER_OUT_OF_RANGE : PySem.W.nsIn K mainGlobals "NUMBER_OUT_OF_RANGE" = some (some (.int (3) t_NUMBER_OUT_OF_RANGE)))
    (v_NAME_REFUSED : PySem.W.nsIn K mainGlobals "NAME_REFUSED" = some (some (.int (4) t_NAME_REFUSED)))
    (v_TOO_MANY_OPEN : PySem.W.nsIn K mainGlobals "TOO_MANY_OPEN" = some (some (.int (5) t_TOO_MANY_OPEN)))
    (v_ENDS_IN_WRONG_ORDER : PySem.W.nsIn K mainGlobals "ENDS_IN_WRONG_ORDER" = some (some (.int (6) t_ENDS_IN_WRONG_ORDER)))
    (v_TOO_MANY_ATOMS : PySem.W.nsIn K mainGlobals "TOO_MANY_ATOMS" = some (some (.int (7) t_TOO_MANY_ATOMS)))
    (v_MOST_TIMES : PySem.W.nsIn K mainGlobals "MOST_TIMES" = some (some (.int (20) t_MOST_TIMES)))
    (v_MOST_NAMES : PySem.W.nsIn K mainGlobals "MOST_NAMES" = some (some (.int (16) t_MOST_NAMES)))
    (v_LONGEST_NAME : PySem.W.nsIn K mainGlobals "LONGEST_NAME" = some (some (.int (32) t_LONGEST_NAME)))
    (v_MOST_OPEN : PySem.W.nsIn K mainGlobals "MOST_OPEN" = some (some (.int (40) t_MOST_OPEN)))
    (v_MOST_ATOMS : PySem.W.nsIn K mainGlobals "MOST_ATOMS" = some (some (.int (200) t_MOST_ATOMS)))
    (v_LONGEST : PySem.W.nsIn K mainGlobals "LONGEST" = some (some (.int (128) t_LONGEST)))
    (v_TOO_LONG : PySem.W.nsIn K mainGlobals "TOO_LONG" = some (some (.int (-2) t_TOO_LONG)))
    (v_NOT_IN_FORM : PySem.W.nsIn K mainGlobals "NOT_IN_FORM" = some (some (.int (-6) t_NOT_IN_FORM)))
    (v_GREATEST : PySem.W.nsIn K mainGlobals "GREATEST" = some (some (.int (1114111) t_GREATEST)))
    (v_NO_PLACE : PySem.W.nsIn K mainGlobals "NO_PLACE" = some (some (.int (-1) t_NO_PLACE)))
    (v_FIGURES : PySem.W.nsIn K mainGlobals "FIGURES" = some (some (.str zFig t_FIGURES)))
    (v_SMALL_LETTERS : PySem.W.nsIn K mainGlobals "SMALL_LETTERS" = some (some (.str zSmall t_SMALL_LETTERS)))
    (v_NAME_SIGNS : PySem.W.nsIn K mainGlobals "NAME_SIGNS" = some (some (.str zName t_NAME_SIGNS)))
    (v_SIGNS : PySem.W.nsIn K mainGlobals "SIGNS" = some (some (.str zSigns t_SIGNS)))
    (v_SET_SIGNS : PySem.W.nsIn K mainGlobals "SET_SIGNS" = some (some (.str zSet t_SET_SIGNS)))
    (v_END_ESCAPES : PySem.W.nsIn K mainGlobals "END_ESCAPES" = some (some (.str zEnd t_END_ESCAPES)))
    (v_PART_ESCAPES : PySem.W.nsIn K mainGlobals "PART_ESCAPES" = some (some (.str zPart t_PART_ESCAPES)))
    (v_ATOM_ESCAPES : PySem.W.nsIn K mainGlobals "ATOM_ESCAPES" = some (some (.str zAtom t_ATOM_ESCAPES)))
    (v_LISTED_ESCAPES : PySem.W.nsIn K mainGlobals "LISTED_ESCAPES" = some (some (.str zCls t_LISTED_ESCAPES)))
    (v_len : PySem.W.nsIn K mainGlobals "len" = some none)
    (v_ord : PySem.W.nsIn K mainGlobals "ord" = some none)
    (v_range : PySem.W.nsIn K mainGlobals "range" = some none)
    (v_int : PySem.W.nsIn K mainGlobals "int" = some none)
    (v_max : PySem.W.nsIn K mainGlobals "max" = some none)
    (v_list : PySem.W.nsIn K mainGlobals "list" = some none)
    (v_enumerate : PySem.W.nsIn K mainGlobals "enumerate" = some none)
    (v_reversed : PySem.W.nsIn K mainGlobals "reversed" = some none)
    (v_zip : PySem.W.nsIn K mainGlobals "zip" = some none)
    (v_min : PySem.W.nsIn K mainGlobals "min" = some none)
    (dL : PySem.W.nsIn K mainGlobals "LOWEST_SECOND" = some (some (.ref d1)))
    (dLl : K.lookup d1 = some ⟨.type "dict", none, .dict #[⟨224, .int 224 u1, .int 160 u2⟩, ⟨240, .int 240 u3, .int 144 u4⟩] e1, #[]⟩)
    (dH : PySem.W.nsIn K mainGlobals "HIGHEST_SECOND" = some (some (.ref d2)))
    (dHl : K.lookup d2 = some ⟨.type "dict", none, .dict #[⟨237, .int 237 u5, .int 159 u6⟩, ⟨244, .int 244 u7, .int 143 u8⟩] e2, #[]⟩)
    (dC : PySem.W.nsIn K mainGlobals "CONTROL_VALUES" = some (some (.ref d3)))
    (dCl : K.lookup d3 = some ⟨.type "dict", none, .dict #[⟨PyData.keyHash w.params (sg 110), .str (sg 110) u9, .int 10 u10⟩, ⟨PyData.keyHash w.params (sg 116), .str (sg 116) u11, .int 9 u12⟩] e3, #[]⟩)
    (dM : PySem.W.nsIn K mainGlobals "FIRST_BYTE_MARKS" = some (some (.ref d4)))
    (dMl : K.lookup d4 = some ⟨.type "tuple", none, .seq #[.int 0 u13, .int 192 u14, .int 224 u15, .int 240 u16] e4, #[]⟩)
    (dR : PySem.W.nsIn K mainGlobals "LISTED_RANGES" = some (some (.ref d5)))
    (dRl : K.lookup d5 = some ⟨.type "dict", none, .dict #[⟨PyData.keyHash w.params (sg 100), .str (sg 100) u17, .ref d6⟩, ⟨PyData.keyHash w.params (sg 119), .str (sg 119) u18, .ref d7⟩, ⟨PyData.keyHash w.params (sg 115), .str (sg 115) u19, .ref d8⟩] e5, #[]⟩)
    (dR100 : PySem.W.nsIn K d5 (sg 100) = some (some (.ref d6)))
    (dR119 : PySem.W.nsIn K d5 (sg 119) = some (some (.ref d7)))
    (dR115 : PySem.W.nsIn K d5 (sg 115) = some (some (.ref d8)))
    (dR68 : PySem.W.nsIn K d5 (sg 68) = some none)
    (dR87 : PySem.W.nsIn K d5 (sg 87) = some none)
    (dR83 : PySem.W.nsIn K d5 (sg 83) = some none)
    (s_d6 : K.lookup d6 = some ⟨.type "tuple", none, .seq #[.ref g1] e6, #[]⟩)
    (s_g1 : K.lookup g1 = some ⟨.type "tuple", none, .seq #[.int 48 u20, .int 57 u21] e7, #[]⟩)
    (s_d7 : K.lookup d7 = some ⟨.type "tuple", none, .seq #[.ref g2, .ref g3, .ref g4, .ref g5] e8, #[]⟩)
    (s_g2 : K.lookup g2 = some ⟨.type "tuple", none, .seq #[.int 48 u22, .int 57 u23] e9, #[]⟩)
    (s_g3 : K.lookup g3 = some ⟨.type "tuple", none, .seq #[.int 65 u24, .int 90 u25] e10, #[]⟩)
    (s_g4 : K.lookup g4 = some ⟨.type "tuple", none, .seq #[.int 95 u26, .int 95 u27] e11, #[]⟩)
    (s_g5 : K.lookup g5 = some ⟨.type "tuple", none, .seq #[.int 97 u28, .int 122 u29] e12, #[]⟩)
    (s_d8 : K.lookup d8 = some ⟨.type "tuple", none, .seq #[.ref g6, .ref g7] e13, #[]⟩)
    (s_g6 : K.lookup g6 = some ⟨.type "tuple", none, .seq #[.int 9 u30, .int 13 u31] e14, #[]⟩)
    (s_g7 : K.lookup g7 = some ⟨.type "tuple", none, .seq #[.int 32 u32, .int 32 u33] e15, #[]⟩)
    (dP : PySem.W.nsIn K mainGlobals "REPETITIONS" = some (some (.ref d9)))
    (dPl : K.lookup d9 = some ⟨.type "dict", none, .dict #[⟨PyData.keyHash w.params (sg 42), .str (sg 42) u34, .ref g8⟩, ⟨PyData.keyHash w.params (sg 43), .str (sg 43) u35, .ref g9⟩, ⟨PyData.keyHash w.params (sg 63), .str (sg 63) u36, .ref g10⟩] e16, #[]⟩)
    (dP42 : PySem.W.nsIn K d9 (sg 42) = some (some (.ref g8)))
    (dP43 : PySem.W.nsIn K d9 (sg 43) = some (some (.ref g9)))
    (dP63 : PySem.W.nsIn K d9 (sg 63) = some (some (.ref g10)))
    (s_g8 : K.lookup g8 = some ⟨.type "tuple", none, .seq #[.int 0 u37, .none] e17, #[]⟩)
    (s_g9 : K.lookup g9 = some ⟨.type "tuple", none, .seq #[.int 1 u38, .none] e18, #[]⟩)
    (s_g10 : K.lookup g10 = some ⟨.type "tuple", none, .seq #[.int 0 u39, .int 1 u40] e19, #[]⟩)
    (lo1 : (d1 == sysModules) = false)
    (lo2 : (d2 == sysModules) = false)
    (lo3 : (d3 == sysModules) = false)
    (lo5 : (d5 == sysModules) = false)
    : ∃ fd : FuncData, (∀ (s : Shared) (us : List Value), us.length = (["from_byte", "p", "t"] : List Str).length → BindsTo s fd ⟨us, []⟩ ((["from_byte", "p", "t"] : List Str).zip us)) ∧ ∀ base : Heap, K.In base → base.Ns mainGlobals mg → FnOk P w K mg base CX0 224 fa fd ["from_byte", "p", "t"] (spCall K) := by
  have e := hfa.symm.trans (PySem.W.mg_of X G a_find)
  cases e
  have FT : FaultTxt K mg CF fI := { gC := PySem.W.mg_of X G aFT, cls := ⟨_, _, _, _, _, _, _, _, _, _, _, _, _, _, xLFT⟩, sa := saFT, xf := ⟨gaFT, ggFT, eCFT, hCFT⟩, noK := nFT_kind, noP := nFT_place, iC := a1FT, tC := t1FT, kC := kCFT, exC := eCFT, tyC := tCFT, te := exm_self eCFT iCFT tCFT sCFT, fn := ⟨_, _, _, _, _, _, _, _, _, _, _, _, _, _, _, _, _, _, _, l1FT, c1FT⟩ }
  have RT : PySem.RefX.RefTxt K mg CX fX := { gC := PySem.W.mg_of X G aRT, cls := ⟨_, _, _, _, _, _, _, _, _, _, _, _, _, _, xLRT⟩, sa := saRT, xf := ⟨gaRT, ggRT, eCRT, hCRT⟩, noA := nRT_answer, iC := a1RT, tC := t1RT, kC := kCRT, exC := eCRT, tyC := tCRT, te := exm_self eCRT iCRT tCRT sCRT, fn := ⟨_, _, _, _, _, _, _, _, _, _, _, _, _, _, l1RT, c1RT⟩ }
  have T : Txt K mg C CF fI := ⟨FT, ⟨pgR, hdR, poR, saR⟩, nR_given, nR_place, nR_names, nR_brackets, PySem.W.mg_none_of X G v_len, PySem.W.mg_none_of X G v_ord, ⟨_, PySem.W.mg_of X G v_ENDS_TOO_SOON⟩, ⟨_, PySem.W.mg_of X G v_CANNOT_STAND⟩⟩
  have TB : TxB K CB := ⟨⟨pgB, hdB, poB, saB⟩, nB_closing, nB_number, nB_rows, nB_atoms, nB_last_atoms⟩
  have TP : TxP K CP := ⟨⟨pgP, hdP, poP, saP⟩, nP_names, nP_body⟩
  obtain ⟨cs, hcs⟩ : ∃ cs : Cs, cs = ⟨co, cS, cR, cC, cP, cK⟩ := ⟨_, rfl⟩
  obtain rfl : cs.o = co := by rw [hcs]
  obtain rfl : cs.s = cS := by rw [hcs]
  obtain rfl : cs.r = cR := by rw [hcs]
  obtain rfl : cs.c = cC := by rw [hcs]
  obtain rfl : cs.p = cP := by rw [hcs]
  obtain rfl : cs.k = cK := by rw [hcs]
  clear hcs
  have TN : TxN K cs := { clo := ⟨pgo, hdo, poo, sao⟩, cls := ⟨pgs, hds, pos, sas⟩, clr := ⟨pgr, hdr, por, sar⟩, clc := ⟨pgc, hdc, poc, sac⟩, clp := ⟨pgp, hdp, pop, sap⟩, clk := ⟨pgk, hdk, pok, sak⟩, o1 := no_ranges, o2 := no_inverted, o3 := no_reach, s1 := ns_sign, s2 := ns_reach, r1 := nr_steps, r2 := nr_reach, r3 := nr_reach_after, c1 := nc_rows, c2 := nc_reach, p1 := np_body, p2 := np_least, p3 := np_most, p4 := np_reach, p5 := np_reach_after, k1 := nk_number, k2 := nk_body, k3 := nk_reach }
  have TS : TxS P w K mg CF fI f_following_bytes := { ft := FT, k1 := T.k1, k2 := T.k2, len := T.len, range := PySem.W.mg_none_of X G v_range, low := ⟨d1, PySem.W.mg_of X G dL, ⟨_, dLl, rfl, rfl⟩, fun i => kat_int lo1 dLl (by decide +kernel) (by decide +kernel) i⟩, high := ⟨d2, PySem.W.mg_of X G dH, ⟨_, dHl, rfl, rfl⟩, fun i => kat_int lo2 dHl (by decide +kernel) (by decide +kernel) i⟩, marks := ⟨d4, PySem.W.mg_of X G dM, fun H => .inr ⟨_, _, _, dMl, rfl, rfl, by show 4 ≤ sizeLine; decide, .cons ⟨_, rfl⟩ (.cons ⟨_, rfl⟩ (.cons ⟨_, rfl⟩ (.cons ⟨_, rfl⟩ .nil)))⟩⟩, gF := PySem.W.mg_of X G a_following_bytes, kF := k_following_bytes }
  have TE : TxE P w K mg := ⟨⟨_, PySem.W.mg_of X G v_LISTED_ESCAPES⟩, ⟨d3, PySem.W.mg_of X G dC, ⟨_, dCl, rfl, rfl⟩, fun i => kat_str lo3 dCl i⟩, T.ord⟩
  have lit5 : PySem.W.KeysLit w.params (#[⟨PyData.keyHash w.params (sg 100), .str (sg 100) _, .ref d6⟩, ⟨PyData.keyHash w.params (sg 119), .str (sg 119) _, .ref d7⟩, ⟨PyData.keyHash w.params (sg 115), .str (sg 115) _, .ref d8⟩] : Array DictEntry).toList := ⟨⟨_, u17, rfl, rfl⟩, ⟨_, u18, rfl, rfl⟩, ⟨_, u19, rfl, rfl⟩, trivial⟩
  have TL : TxL w K mg d5 _ e5 d6 d7 d8 := { at_ := PySem.W.mg_of X G dR, dic := ⟨dRl, lit5, lo5⟩, e1 := dR100, e2 := dR119, e3 := dR115, e4 := dR68, e5 := dR87, e6 := dR83, r1 := ⟨[g1], fun H => ⟨tup_k (xs := [V.ref g1]) s_d6 (by show 1 ≤ 1000; decide) (.cons rfl (.nil)) H, ⟨pair_k s_g1 H, trivial⟩⟩⟩, r2 := ⟨[g2, g3, g4, g5], fun H => ⟨tup_k (xs := [V.ref g2, V.ref g3, V.ref g4, V.ref g5]) s_d7 (by show 4 ≤ 1000; decide) (.cons rfl (.cons rfl (.cons rfl (.cons rfl (.nil))))) H, ⟨pair_k s_g2 H, ⟨pair_k s_g3 H, ⟨pair_k s_g4 H, ⟨pair_k s_g5 H, trivial⟩⟩⟩⟩⟩⟩, r3 := ⟨[g6, g7], fun H => ⟨tup_k (xs := [V.ref g6, V.ref g7]) s_d8 (by show 2 ≤ 1000; decide) (.cons rfl (.cons rfl (.nil))) H, ⟨pair_k s_g6 H, ⟨pair_k s_g7 H, trivial⟩⟩⟩⟩, list := PySem.W.mg_none_of X G v_list }
  have TR : TxR w K mg d9 g8 g9 g10 := { at_ := PySem.W.mg_of X G dP, e1 := ⟨_, _, _, dPl, ⟨⟨_, _, rfl, rfl⟩, ⟨_, _, rfl, rfl⟩, ⟨_, _, rfl, rfl⟩, trivial⟩, dP42, rfl⟩, e2 := ⟨_, _, _, dPl, ⟨⟨_, _, rfl, rfl⟩, ⟨_, _, rfl, rfl⟩, ⟨_, _, rfl, rfl⟩, trivial⟩, dP43, rfl⟩, e3 := ⟨_, _, _, dPl, ⟨⟨_, _, rfl, rfl⟩, ⟨_, _, rfl, rfl⟩, ⟨_, _, rfl, rfl⟩, trivial⟩, dP63, rfl⟩, r1 := tup_k (xs := [V.int ((0 : Nat) : Int), optN none]) s_g8 (by show 2 ≤ 1000; decide) (.cons ⟨_, rfl⟩ (.cons rfl .nil)), r2 := tup_k (xs := [V.int ((1 : Nat) : Int), optN none]) s_g9 (by show 2 ≤ 1000; decide) (.cons ⟨_, rfl⟩ (.cons rfl .nil)), r3 := pair_k s_g10 }
  have TT : TxT K CT := ⟨⟨pgT, hdT, poT, saT⟩, nT_scalars, nT_first_bytes⟩
  have TSr : TxSr K CS := ⟨⟨pgS, hdS, poS, saS⟩, nS_pattern, nS_text⟩
  have F_R_init := fun_mk (st := (sR 0)) l_R_init c_R_init k_R_init
  have b_R_init := F_R_init.binds (ps := ["self", "given"]) fun _ _ _ _ _ _ us hl => match us, hl with | [_, _], _ => rfl
  have F_R_need_byte := fun_mk (st := (sR 1)) l_R_need_byte c_R_need_byte k_R_need_byte
  have b_R_need_byte := F_R_need_byte.binds (ps := ["self"]) fun _ _ _ _ _ _ us hl => match us, hl with | [_], _ => rfl
  have F_R_at := fun_mk (st := (sR 2)) l_R_at c_R_at k_R_at
  have b_R_at := F_R_at.binds (ps := ["self", "signs"]) fun _ _ _ _ _ _ us hl => match us, hl with | [_, _], _ => rfl
  have F_R_take := fun_mk (st := (sR 3)) l_R_take c_R_take k_R_take
  have b_R_take := F_R_take.binds (ps := ["self", "signs"]) fun _ _ _ _ _ _ us hl => match us, hl with | [_, _], _ => rfl
  have F_R_take_plain := fun_mk (st := (sR 4)) l_R_take_plain c_R_take_plain k_R_take_plain
  have b_R_take_plain := F_R_take_plain.binds (ps := ["self", "barred"]) fun _ _ _ _ _ _ us hl => match us, hl with | [_, _], _ => rfl
  have F_R_take_escape := fun_mk (st := (sR 5)) l_R_take_escape c_R_take_escape k_R_take_escape
  have b_R_take_escape := F_R_take_escape.binds (ps := ["self", "escapes"]) fun _ _ _ _ _ _ us hl => match us, hl with | [_, _], _ => rfl
  have F_R_take_one := fun_mk (st := (sR 6)) l_R_take_one c_R_take_one k_R_take_one
  have b_R_take_one := F_R_take_one.binds (ps := ["self", "escapes"]) fun _ _ _ _ _ _ us hl => match us, hl with | [_, _], _ => rfl
  have F_R_take_part := fun_mk (st := (sR 7)) l_R_take_part c_R_take_part k_R_take_part
  have b_R_take_part := F_R_take_part.binds (ps := ["self"]) fun _ _ _ _ _ _ us hl => match us, hl with | [_], _ => rfl
  have F_R_take_set := fun_mk (st := (sR 8)) l_R_take_set c_R_take_set k_R_take_set
  have b_R_take_set := F_R_take_set.binds (ps := ["self"]) fun _ _ _ _ _ _ us hl => match us, hl with | [_], _ => rfl
  have F_R_take_escaped_atom := fun_mk (st := (sR 9)) l_R_take_escaped_atom c_R_take_escaped_atom k_R_take_escaped_atom
  have b_R_take_escaped_atom := F_R_take_escaped_atom.binds (ps := ["self"]) fun _ _ _ _ _ _ us hl => match us, hl with | [_], _ => rfl
  have F_R_take_single_atom := fun_mk (st := (sR 10)) l_R_take_single_atom c_R_take_single_atom k_R_take_single_atom
  have b_R_take_single_atom := F_R_take_single_atom.binds (ps := ["self"]) fun _ _ _ _ _ _ us hl => match us, hl with | [_], _ => rfl
  have F_R_take_number := fun_mk (st := (sR 11)) l_R_take_number c_R_take_number k_R_take_number
  have b_R_take_number := F_R_take_number.binds (ps := ["self", "least"]) fun _ _ _ _ _ _ us hl => match us, hl with | [_, _], _ => rfl
  have F_R_take_braces := fun_mk (st := (sR 12)) l_R_take_braces c_R_take_braces k_R_take_braces
  have b_R_take_braces := F_R_take_braces.binds (ps := ["self"]) fun _ _ _ _ _ _ us hl => match us, hl with | [_], _ => rfl
  have F_R_take_times := fun_mk (st := (sR 13)) l_R_take_times c_R_take_times k_R_take_times
  have b_R_take_times := F_R_take_times.binds (ps := ["self"]) fun _ _ _ _ _ _ us hl => match us, hl with | [_], _ => rfl
  have F_R_take_repetition := fun_mk (st := (sR 14)) l_R_take_repetition c_R_take_repetition k_R_take_repetition
  have b_R_take_repetition := F_R_take_repetition.binds (ps := ["self"]) fun _ _ _ _ _ _ us hl => match us, hl with | [_], _ => rfl
  have F_R_keep_name := fun_mk (st := (sR 15)) l_R_keep_name c_R_keep_name k_R_keep_name
  have b_R_keep_name := F_R_keep_name.binds (ps := ["self", "first_place"]) fun _ _ _ _ _ _ us hl => match us, hl with | [_, _], _ => rfl
  have F_R_take_name := fun_mk (st := (sR 16)) l_R_take_name c_R_take_name k_R_take_name
  have b_R_take_name := F_R_take_name.binds (ps := ["self"]) fun _ _ _ _ _ _ us hl => match us, hl with | [_], _ => rfl
  have F_R_take_opening := fun_mk (st := (sR 17)) l_R_take_opening c_R_take_opening k_R_take_opening
  have b_R_take_opening := F_R_take_opening.binds (ps := ["self"]) fun _ _ _ _ _ _ us hl => match us, hl with | [_], _ => rfl
  have F_R_take_closing := fun_mk (st := (sR 18)) l_R_take_closing c_R_take_closing k_R_take_closing
  have b_R_take_closing := F_R_take_closing.binds (ps := ["self"]) fun _ _ _ _ _ _ us hl => match us, hl with | [_], _ => rfl
  have F_R_take_next := fun_mk (st := (sR 19)) l_R_take_next c_R_take_next k_R_take_next
  have b_R_take_next := F_R_take_next.binds (ps := ["self"]) fun _ _ _ _ _ _ us hl => match us, hl with | [_], _ => rfl
  have F_R_made_pattern := fun_mk (st := (sR 20)) l_R_made_pattern c_R_made_pattern k_R_made_pattern
  have b_R_made_pattern := F_R_made_pattern.binds (ps := ["self"]) fun _ _ _ _ _ _ us hl => match us, hl with | [_], _ => rfl
  have F_B_init := fun_mk (st := (sB 0)) l_B_init c_B_init k_B_init
  have b_B_init := F_B_init.binds (ps := ["self", "closing", "number"]) fun _ _ _ _ _ _ us hl => match us, hl with | [_, _, _], _ => rfl
  have F_B_add_atom := fun_mk (st := (sB 1)) l_B_add_atom c_B_add_atom k_B_add_atom
  have b_B_add_atom := F_B_add_atom.binds (ps := ["self", "part", "atoms"]) fun _ _ _ _ _ _ us hl => match us, hl with | [_, _, _], _ => rfl
  have F_B_repeat_atom := fun_mk (st := (sB 2)) l_B_repeat_atom c_B_repeat_atom k_B_repeat_atom
  have b_B_repeat_atom := F_B_repeat_atom.binds (ps := ["self", "least", "most"]) fun _ _ _ _ _ _ us hl => match us, hl with | [_, _, _], _ => rfl
  have F_B_end_row := fun_mk (st := (sB 3)) l_B_end_row c_B_end_row k_B_end_row
  have b_B_end_row := F_B_end_row.binds (ps := ["self"]) fun _ _ _ _ _ _ us hl => match us, hl with | [_], _ => rfl
  have F_B_made_part := fun_mk (st := (sB 4)) l_B_made_part c_B_made_part k_B_made_part
  have b_B_made_part := F_B_made_part.binds (ps := ["self"]) fun _ _ _ _ _ _ us hl => match us, hl with | [_], _ => rfl
  have F_P_init := fun_mk (st := (inClass (top i_Pattern) 0)) l_P_init c_P_init k_P_init
  have b_P_init := F_P_init.binds (ps := ["self", "names", "body"]) fun _ _ _ _ _ _ us hl => match us, hl with | [_, _, _], _ => rfl
  have F_o_init := fun_mk (st := (sON 0)) l_o_init c_o_init k_o_init
  have b_o_init := F_o_init.binds (ps := ["self", "ranges", "inverted"]) fun _ _ _ _ _ _ us hl => match us, hl with | [_, _, _], _ => rfl
  have F_o_measure := fun_mk (st := (sON 1)) l_o_measure c_o_measure k_o_measure
  have b_o_measure := F_o_measure.binds (ps := ["self", "text"]) fun _ _ _ _ _ _ us hl => match us, hl with | [_, _], _ => rfl
  have F_o_follow := fun_mk (st := (sON 2)) l_o_follow c_o_follow k_o_follow
  have b_o_follow := F_o_follow.binds (ps := ["self", "place", "targets", "captures"]) fun _ _ _ _ _ _ us hl => match us, hl with | [_, _, _, _], _ => rfl
  have F_s_init := fun_mk (st := (sSN 0)) l_s_init c_s_init k_s_init
  have b_s_init := F_s_init.binds (ps := ["self", "sign"]) fun _ _ _ _ _ _ us hl => match us, hl with | [_, _], _ => rfl
  have F_s_may_stand := fun_mk (st := (sSN 1)) l_s_may_stand c_s_may_stand k_s_may_stand
  have b_s_may_stand := F_s_may_stand.binds (ps := ["self", "text", "place"]) fun _ _ _ _ _ _ us hl => match us, hl with | [_, _, _], _ => rfl
  have F_s_measure := fun_mk (st := (sSN 2)) l_s_measure c_s_measure k_s_measure
  have b_s_measure := F_s_measure.binds (ps := ["self", "text"]) fun _ _ _ _ _ _ us hl => match us, hl with | [_, _], _ => rfl
  have F_s_follow := fun_mk (st := (sSN 3)) l_s_follow c_s_follow k_s_follow
  have b_s_follow := F_s_follow.binds (ps := ["self", "place", "targets", "captures"]) fun _ _ _ _ _ _ us hl => match us, hl with | [_, _, _, _], _ => rfl
  have F_r_init := fun_mk (st := (sRN 0)) l_r_init c_r_init k_r_init
  have b_r_init := F_r_init.binds (ps := ["self", "steps"]) fun _ _ _ _ _ _ us hl => match us, hl with | [_, _], _ => rfl
  have F_r_measure := fun_mk (st := (sRN 1)) l_r_measure c_r_measure k_r_measure
  have b_r_measure := F_r_measure.binds (ps := ["self", "text"]) fun _ _ _ _ _ _ us hl => match us, hl with | [_, _], _ => rfl
  have F_r_follow := fun_mk (st := (sRN 2)) l_r_follow c_r_follow k_r_follow
  have b_r_follow := F_r_follow.binds (ps := ["self", "place", "targets", "captures"]) fun _ _ _ _ _ _ us hl => match us, hl with | [_, _, _, _], _ => rfl
  have F_c_init := fun_mk (st := (sCN 0)) l_c_init c_c_init k_c_init
  have b_c_init := F_c_init.binds (ps := ["self", "rows"]) fun _ _ _ _ _ _ us hl => match us, hl with | [_, _], _ => rfl
  have F_c_measure := fun_mk (st := (sCN 1)) l_c_measure c_c_measure k_c_measure
  have b_c_measure := F_c_measure.binds (ps := ["self", "text"]) fun _ _ _ _ _ _ us hl => match us, hl with | [_, _], _ => rfl
  have F_c_follow := fun_mk (st := (sCN 2)) l_c_follow c_c_follow k_c_follow
  have b_c_follow := F_c_follow.binds (ps := ["self", "place", "targets", "captures"]) fun _ _ _ _ _ _ us hl => match us, hl with | [_, _, _, _], _ => rfl
  have F_p_init := fun_mk (st := (sPN 0)) l_p_init c_p_init k_p_init
  have b_p_init := F_p_init.binds (ps := ["self", "body", "least", "most"]) fun _ _ _ _ _ _ us hl => match us, hl with | [_, _, _, _], _ => rfl
  have F_p_measure := fun_mk (st := (sPN 1)) l_p_measure c_p_measure k_p_measure
  have b_p_measure := F_p_measure.binds (ps := ["self", "text"]) fun _ _ _ _ _ _ us hl => match us, hl with | [_, _], _ => rfl
  have F_p_one_time_before := fun_mk (st := (sPN 2)) l_p_one_time_before c_p_one_time_before k_p_one_time_before
  have b_p_one_time_before := F_p_one_time_before.binds (ps := ["self", "times", "reach"]) fun _ _ _ _ _ _ us hl => match us, hl with | [_, _, _], _ => rfl
  have F_p_wanted_next := fun_mk (st := (sPN 3)) l_p_wanted_next c_p_wanted_next k_p_wanted_next
  have b_p_wanted_next := F_p_wanted_next.binds (ps := ["self", "times", "place", "targets"]) fun _ _ _ _ _ _ us hl => match us, hl with | [_, _, _, _], _ => rfl
  have F_p_follow := fun_mk (st := (sPN 4)) l_p_follow c_p_follow k_p_follow
  have b_p_follow := F_p_follow.binds (ps := ["self", "place", "targets", "captures"]) fun _ _ _ _ _ _ us hl => match us, hl with | [_, _, _, _], _ => rfl
  have F_k_init := fun_mk (st := (sKN 0)) l_k_init c_k_init k_k_init
  have b_k_init := F_k_init.binds (ps := ["self", "number", "body"]) fun _ _ _ _ _ _ us hl => match us, hl with | [_, _, _], _ => rfl
  have F_k_measure := fun_mk (st := (sKN 1)) l_k_measure c_k_measure k_k_measure
  have b_k_measure := F_k_measure.binds (ps := ["self", "text"]) fun _ _ _ _ _ _ us hl => match us, hl with | [_, _], _ => rfl
  have F_k_follow := fun_mk (st := (sKN 2)) l_k_follow c_k_follow k_k_follow
  have b_k_follow := F_k_follow.binds (ps := ["self", "place", "targets", "captures"]) fun _ _ _ _ _ _ us hl => match us, hl with | [_, _, _, _], _ => rfl
  have F_T_init := fun_mk (st := (sT 0)) l_T_init c_T_init k_T_init
  have b_T_init := F_T_init.binds (ps := ["self", "given"]) fun _ _ _ _ _ _ us hl => match us, hl with | [_, _], _ => rfl
  have F_T_end_place := fun_mk (st := (sT 1)) l_T_end_place c_T_end_place k_T_end_place
  have b_T_end_place := F_T_end_place.binds (ps := ["self"]) fun _ _ _ _ _ _ us hl => match us, hl with | [_], _ => rfl
  have F_T_has_word_value := fun_mk (st := (sT 2)) l_T_has_word_value c_T_has_word_value k_T_has_word_value
  have b_T_has_word_value := F_T_has_word_value.binds (ps := ["self", "place"]) fun _ _ _ _ _ _ us hl => match us, hl with | [_, _], _ => rfl
  have F_T_is_word_edge := fun_mk (st := (sT 3)) l_T_is_word_edge c_T_is_word_edge k_T_is_word_edge
  have b_T_is_word_edge := F_T_is_word_edge.binds (ps := ["self", "place"]) fun _ _ _ _ _ _ us hl => match us, hl with | [_, _], _ => rfl
  have F_T_in_bytes := fun_mk (st := (sT 4)) l_T_in_bytes c_T_in_bytes k_T_in_bytes
  have b_T_in_bytes := F_T_in_bytes.binds (ps := ["self", "begin", "end"]) fun _ _ _ _ _ _ us hl => match us, hl with | [_, _, _], _ => rfl
  have F_S_init := fun_mk (st := (sS 0)) l_S_init c_S_init k_S_init
  have b_S_init := F_S_init.binds (ps := ["self", "pattern", "text"]) fun _ _ _ _ _ _ us hl => match us, hl with | [_, _, _], _ => rfl
  have F_S_first_match := fun_mk (st := (sS 2)) l_S_first_match c_S_first_match k_S_first_match
  have b_S_first_match := F_S_first_match.binds (ps := ["self", "place"]) fun _ _ _ _ _ _ us hl => match us, hl with | [_, _], _ => rfl
  have F_S_captures := fun_mk (st := (sS 5)) l_S_captures c_S_captures k_S_captures
  have b_S_captures := F_S_captures.binds (ps := ["self", "begin", "end"]) fun _ _ _ _ _ _ us hl => match us, hl with | [_, _, _], _ => rfl
  have F_S_spans := fun_mk (st := (sS 6)) l_S_spans c_S_spans k_S_spans
  have b_S_spans := F_S_spans.binds (ps := ["self", "begin", "end"]) fun _ _ _ _ _ _ us hl => match us, hl with | [_, _, _], _ => rfl
  have F_just_one := fun_mk (st := (top i_just_one)) l_just_one c_just_one k_just_one
  have b_just_one := F_just_one.binds (ps := ["value"]) fun _ _ _ _ _ _ us hl => match us, hl with | [_], _ => rfl
  have F_is_just_one := fun_mk (st := (top i_is_just_one)) l_is_just_one c_is_just_one k_is_just_one
  have b_is_just_one := F_is_just_one.binds (ps := ["ranges"]) fun _ _ _ _ _ _ us hl => match us, hl with | [_], _ => rfl
  have F_every_value := fun_mk (st := (top i_every_value)) l_every_value c_every_value k_every_value
  have b_every_value := F_every_value.binds (ps := []) fun _ _ _ _ _ _ us hl => match us, hl with | [], _ => rfl
  have F_all_but := fun_mk (st := (top i_all_but)) l_all_but c_all_but k_all_but
  have b_all_but := F_all_but.binds (ps := ["ranges"]) fun _ _ _ _ _ _ us hl => match us, hl with | [_], _ => rfl
  have F_listed_ranges := fun_mk (st := (top i_listed_ranges)) l_listed_ranges c_listed_ranges k_listed_ranges
  have b_listed_ranges := F_listed_ranges.binds (ps := ["sign"]) fun _ _ _ _ _ _ us hl => match us, hl with | [_], _ => rfl
  have F_row_of := fun_mk (st := (top i_row_of)) l_row_of c_row_of k_row_of
  have b_row_of := F_row_of.binds (ps := ["steps"]) fun _ _ _ _ _ _ us hl => match us, hl with | [_], _ => rfl
  have F_choice_of := fun_mk (st := (top i_choice_of)) l_choice_of c_choice_of k_choice_of
  have b_choice_of := F_choice_of.binds (ps := ["rows"]) fun _ _ _ _ _ _ us hl => match us, hl with | [_], _ => rfl
  have F_following_bytes := fun_mk (st := (top i_following_bytes)) l_following_bytes c_following_bytes k_following_bytes
  have b_following_bytes := F_following_bytes.binds (ps := ["first"]) fun _ _ _ _ _ _ us hl => match us, hl with | [_], _ => rfl
  have F_scalar_at := fun_mk (st := (top i_scalar_at)) l_scalar_at c_scalar_at k_scalar_at
  have b_scalar_at := F_scalar_at.binds (ps := ["given", "place"]) fun _ _ _ _ _ _ us hl => match us, hl with | [_, _], _ => rfl
  have F_escape_ranges := fun_mk (st := (top i_escape_ranges)) l_escape_ranges c_escape_ranges k_escape_ranges
  have b_escape_ranges := F_escape_ranges.binds (ps := ["sign"]) fun _ _ _ _ _ _ us hl => match us, hl with | [_], _ => rfl
  have F_names_in := fun_mk (st := (top i_names_in)) l_names_in c_names_in k_names_in
  have b_names_in := F_names_in.binds (ps := ["given", "spots"]) fun _ _ _ _ _ _ us hl => match us, hl with | [_, _], _ => rfl
  have F_read_pattern := fun_mk (st := (top i_read_pattern)) l_read_pattern c_read_pattern k_read_pattern
  have b_read_pattern := F_read_pattern.binds (ps := ["given"]) fun _ _ _ _ _ _ us hl => match us, hl with | [_], _ => rfl
  have F_only := fun_mk (st := (top i_only)) l_only c_only k_only
  have b_only := F_only.binds (ps := ["place"]) fun _ _ _ _ _ _ us hl => match us, hl with | [_], _ => rfl
  have F_lowest_place := fun_mk (st := (top i_lowest_place)) l_lowest_place c_lowest_place k_lowest_place
  have b_lowest_place := F_lowest_place.binds (ps := ["places"]) fun _ _ _ _ _ _ us hl => match us, hl with | [_], _ => rfl
  have F_highest_place := fun_mk (st := (top i_highest_place)) l_highest_place c_highest_place k_highest_place
  have b_highest_place := F_highest_place.binds (ps := ["places"]) fun _ _ _ _ _ _ us hl => match us, hl with | [_], _ => rfl
  have F_without := fun_mk (st := (top i_without)) l_without c_without k_without
  have b_without := F_without.binds (ps := ["places", "taken"]) fun _ _ _ _ _ _ us hl => match us, hl with | [_, _], _ => rfl
  have F_staying := fun_mk (st := (top i_staying)) l_staying c_staying k_staying
  have b_staying := F_staying.binds (ps := ["count"]) fun _ _ _ _ _ _ us hl => match us, hl with | [_], _ => rfl
  have F_reached_from := fun_mk (st := (top i_reached_from)) l_reached_from c_reached_from k_reached_from
  have b_reached_from := F_reached_from.binds (ps := ["places", "reach"]) fun _ _ _ _ _ _ us hl => match us, hl with | [_, _], _ => rfl
  have F_one_behind_other := fun_mk (st := (top i_one_behind_other)) l_one_behind_other c_one_behind_other k_one_behind_other
  have b_one_behind_other := F_one_behind_other.binds (ps := ["reach", "next_reach"]) fun _ _ _ _ _ _ us hl => match us, hl with | [_, _], _ => rfl
  have F_any_times_onward := fun_mk (st := (top i_any_times_onward)) l_any_times_onward c_any_times_onward k_any_times_onward
  have b_any_times_onward := F_any_times_onward.binds (ps := ["reach"]) fun _ _ _ _ _ _ us hl => match us, hl with | [_], _ => rfl
  have F_have_value := fun_mk (st := (top i_have_value)) l_have_value c_have_value k_have_value
  have b_have_value := F_have_value.binds (ps := ["ranges", "value"]) fun _ _ _ _ _ _ us hl => match us, hl with | [_, _], _ => rfl
  have F_is_word_value := fun_mk (st := (top i_is_word_value)) l_is_word_value c_is_word_value k_is_word_value
  have b_is_word_value := F_is_word_value.binds (ps := ["value"]) fun _ _ _ _ _ _ us hl => match us, hl with | [_], _ => rfl
  have F_search_of := fun_mk (st := (top i_search_of)) l_search_of c_search_of k_search_of
  have b_search_of := F_search_of.binds (ps := ["p", "t"]) fun _ _ _ _ _ _ us hl => match us, hl with | [_, _], _ => rfl
  have F_leading_to := fun_mk (st := (top i_leading_to)) l_leading_to c_leading_to k_leading_to
  have b_leading_to := F_leading_to.binds (ps := ["targets", "reach", "places"]) fun _ _ _ _ _ _ us hl => match us, hl with | [_, _, _], _ => rfl
  have F_find := fun_mk (st := (top i_find)) l_find c_find k_find
  have b_find := F_find.binds (ps := ["from_byte", "p", "t"]) fun _ _ _ _ _ _ us hl => match us, hl with | [_, _, _], _ => rfl
  refine ⟨PySem.W.fnOf "find" "find" (defArgs sJ) (defBody sJ) (defScope sJ) .none kV_find dc_find pm_find an_find cd_find ct_find, fun s us hu => match us, hu with | [_, _, _], _ => .of_eq rfl, fun base _ _ => ?_⟩
  have G_just_one : GOk P w K mg base CX0 2 "just_one" ["value"] (spJust K) := ⟨_, _, PySem.W.mg_of X G a_just_one, k_just_one, b_just_one, ok_just F_just_one⟩
  have G_is_just_one : GOk P w K mg base CX0 2 "is_just_one" ["ranges"] (spIsJ K) := ⟨_, _, PySem.W.mg_of X G a_is_just_one, k_is_just_one, b_is_just_one, ok_isj F_is_just_one⟩
  have G_every_value : GOk P w K mg base CX0 2 "every_value" [] (spEvery K) := ⟨_, _, PySem.W.mg_of X G a_every_value, k_every_value, b_every_value, ok_every F_every_value ⟨_, PySem.W.mg_of X G v_GREATEST⟩⟩
  have G_all_but : GOk P w K mg base CX0 2 "all_but" ["ranges"] (spAllBut K) := ⟨_, _, PySem.W.mg_of X G a_all_but, k_all_but, b_all_but, ok_allbut F_all_but ⟨_, PySem.W.mg_of X G v_GREATEST⟩⟩
  have G_listed_ranges : GOk P w K mg base CX0 3 "listed_ranges" ["sign"] (spListed K) := ⟨_, _, PySem.W.mg_of X G a_listed_ranges, k_listed_ranges, b_listed_ranges, ok_listed F_listed_ranges TL G_all_but⟩
  have N_o : NOk P w K mg base cs.o 1 "OneValue" ["self", "ranges", "inverted"] (spOI cs) := ⟨_, _, ⟨mko, a_o_init, i_o_init, kco⟩, PySem.W.mg_of X G ao, b_o_init, ok_oi F_o_init TN⟩
  have N_s : NOk P w K mg base cs.s 1 "Standpoint" ["self", "sign"] (spSI cs) := ⟨_, _, ⟨mks, a_s_init, i_s_init, kcs⟩, PySem.W.mg_of X G as, b_s_init, ok_si F_s_init TN⟩
  have N_r : NOk P w K mg base cs.r 1 "Row" ["self", "steps"] (spRI cs) := ⟨_, _, ⟨mkr, a_r_init, i_r_init, kcr⟩, PySem.W.mg_of X G ar, b_r_init, ok_ri F_r_init TN⟩
  have N_c : NOk P w K mg base cs.c 1 "Choice" ["self", "rows"] (spCI cs) := ⟨_, _, ⟨mkc, a_c_init, i_c_init, kcc⟩, PySem.W.mg_of X G ac, b_c_init, ok_ci F_c_init TN⟩
  have N_p : NOk P w K mg base cs.p 1 "Repetition" ["self", "body", "least", "most"] (spPI cs) := ⟨_, _, ⟨mkp, a_p_init, i_p_init, kcp⟩, PySem.W.mg_of X G ap, b_p_init, ok_pi F_p_init TN⟩
  have N_k : NOk P w K mg base cs.k 1 "Capture" ["self", "number", "body"] (spKI cs) := ⟨_, _, ⟨mkk, a_k_init, i_k_init, kck⟩, PySem.W.mg_of X G ak, b_k_init, ok_ki F_k_init TN⟩
  have N_B : NOk P w K mg base CB 1 "Bracket" ["self", "closing", "number"] (spBInit CB) := ⟨_, _, ⟨mkB, a_B_init, i_B_init, kcB⟩, PySem.W.mg_of X G aB, b_B_init, ok_binit F_B_init TB⟩
  have N_P : NOk P w K mg base CP 1 "Pattern" ["self", "names", "body"] (spPInit CP) := ⟨_, _, ⟨mkP, a_P_init, i_P_init, kcP⟩, PySem.W.mg_of X G aP, b_P_init, ok_pinit F_P_init TP⟩
  have G_row_of : GOk P w K mg base CX0 3 "row_of" ["steps"] (spRowOf cs) := ⟨_, _, PySem.W.mg_of X G a_row_of, k_row_of, b_row_of, ok_rowof F_row_of T.len N_r⟩
  have G_choice_of : GOk P w K mg base CX0 3 "choice_of" ["rows"] (spChOf cs) := ⟨_, _, PySem.W.mg_of X G a_choice_of, k_choice_of, b_choice_of, ok_chof F_choice_of T.len N_c⟩
  have M_B_add_atom : MOk P w K mg base CX0 CB 1 "add_atom" ["self", "part", "atoms"] (spBAdd CB) := ⟨_, _, ⟨a_B_add_atom, i_B_add_atom, k_B_add_atom⟩, b_B_add_atom, ok_badd F_B_add_atom TB⟩
  have M_B_repeat_atom : MOk P w K mg base CX0 CB 4 "repeat_atom" ["self", "least", "most"] (spBRep CB cs) := ⟨_, _, ⟨a_B_repeat_atom, i_B_repeat_atom, k_B_repeat_atom⟩, b_B_repeat_atom, ok_brep F_B_repeat_atom TB (PySem.W.mg_none_of X G v_max) N_p⟩
  have M_B_end_row : MOk P w K mg base CX0 CB 1 "end_row" ["self"] (spBEnd CB) := ⟨_, _, ⟨a_B_end_row, i_B_end_row, k_B_end_row⟩, b_B_end_row, ok_bend F_B_end_row TB⟩
  have M_B_made_part : MOk P w K mg base CX0 CB 4 "made_part" ["self"] (spMade K CB cs) := ⟨_, _, ⟨a_B_made_part, i_B_made_part, k_B_made_part⟩, b_B_made_part, ok_made F_B_made_part TB G_row_of G_choice_of N_k⟩
  have M_R_need_byte : MOk P w K mg base (L2N.CX P w) C 2 "need_byte" ["self"] (spNeed K C CF) := ⟨_, _, ⟨a_R_need_byte, i_R_need_byte, k_R_need_byte⟩, b_R_need_byte, ok_need F_R_need_byte T⟩
  have M_R_at : MOk P w K mg base CX0 C 2 "at" ["self", "signs"] (spAt K C) := ⟨_, _, ⟨a_R_at, i_R_at, k_R_at⟩, b_R_at, ok_at F_R_at T⟩
  have M_R_take : MOk P w K mg base (L2N.CX P w) C 3 "take" ["self", "signs"] (spTake K C CF) := ⟨_, _, ⟨a_R_take, i_R_take, k_R_take⟩, b_R_take, ok_take F_R_take T M_R_need_byte⟩
  have G_fb : FnOk P w K mg base CX0 2 f_following_bytes _ ["first"] spFB := ok_fb F_following_bytes
  have G_scalar_at : GOk P w K mg base (L2N.CX P w) 3 "scalar_at" ["given", "place"] (spSA K CF) := ⟨_, _, PySem.W.mg_of X G a_scalar_at, k_scalar_at, b_scalar_at, ok_sa F_scalar_at TS G_fb b_following_bytes⟩
  have G_escape_ranges : GOk P w K mg base CX0 4 "escape_ranges" ["sign"] (spEsc K) := ⟨_, _, PySem.W.mg_of X G a_escape_ranges, k_escape_ranges, b_escape_ranges, ok_esc F_escape_ranges TE G_listed_ranges G_just_one⟩
  have G_names_in : GOk P w K mg base CX0 2 "names_in" ["given", "spots"] (spNmIn K) := ⟨_, _, PySem.W.mg_of X G a_names_in, k_names_in, b_names_in, ok_nmin F_names_in⟩
  have M_R_take_plain : MOk P w K mg base (L2N.CX P w) C 4 "take_plain" ["self", "barred"] (spPlain K C CF) := ⟨_, _, ⟨a_R_take_plain, i_R_take_plain, k_R_take_plain⟩, b_R_take_plain, ok_plain F_R_take_plain T M_R_need_byte M_R_at G_scalar_at G_just_one⟩
  have M_R_take_escape : MOk P w K mg base (L2N.CX P w) C 4 "take_escape" ["self", "escapes"] (spEscape K C CF) := ⟨_, _, ⟨a_R_take_escape, i_R_take_escape, k_R_take_escape⟩, b_R_take_escape, ok_escape F_R_take_escape T M_R_take⟩
  have M_R_take_one : MOk P w K mg base (L2N.CX P w) C 5 "take_one" ["self", "escapes"] (spOne K C CF) := ⟨_, _, ⟨a_R_take_one, i_R_take_one, k_R_take_one⟩, b_R_take_one, ok_one F_R_take_one T ⟨_, PySem.W.mg_of X G v_SET_SIGNS⟩ M_R_at M_R_take_escape M_R_take_plain G_escape_ranges⟩
  have M_R_take_part : MOk P w K mg base (L2N.CX P w) C 6 "take_part" ["self"] (spGoR K C CF partE) := ⟨_, _, ⟨a_R_take_part, i_R_take_part, k_R_take_part⟩, b_R_take_part, ok_part F_R_take_part T ⟨_, PySem.W.mg_of X G v_PART_ESCAPES⟩ ⟨_, PySem.W.mg_of X G v_END_ESCAPES⟩ ⟨_, PySem.W.mg_of X G v_ENDS_IN_WRONG_ORDER⟩ M_R_at M_R_take_one M_R_take G_is_just_one⟩
  have M_R_take_set : MOk P w K mg base (L2N.CX P w) C 7 "take_set" ["self"] (spSet K C CF cs) := ⟨_, _, ⟨a_R_take_set, i_R_take_set, k_R_take_set⟩, b_R_take_set, ok_set F_R_take_set T M_R_at M_R_take_part M_R_take N_o⟩
  have M_R_take_escaped_atom : MOk P w K mg base (L2N.CX P w) C 5 "take_escaped_atom" ["self"] (spEscA K C CF cs) := ⟨_, _, ⟨a_R_take_escaped_atom, i_R_take_escaped_atom, k_R_take_escaped_atom⟩, b_R_take_escaped_atom, ok_escA F_R_take_escaped_atom T ⟨_, PySem.W.mg_of X G v_ATOM_ESCAPES⟩ M_R_take_escape G_escape_ranges N_o N_s⟩
  have M_R_take_single_atom : MOk P w K mg base (L2N.CX P w) C 8 "take_single_atom" ["self"] (spSingle K C CF cs) := ⟨_, _, ⟨a_R_take_single_atom, i_R_take_single_atom, k_R_take_single_atom⟩, b_R_take_single_atom, ok_single F_R_take_single_atom T ⟨_, PySem.W.mg_of X G v_SIGNS⟩ M_R_at M_R_take_set M_R_take_escaped_atom M_R_take M_R_take_plain G_every_value N_o N_s⟩
  have M_R_take_number : MOk P w K mg base (L2N.CX P w) C 4 "take_number" ["self", "least"] (spNum K C CF) := ⟨_, _, ⟨a_R_take_number, i_R_take_number, k_R_take_number⟩, b_R_take_number, ok_num F_R_take_number T ⟨_, PySem.W.mg_of X G v_FIGURES⟩ ⟨_, PySem.W.mg_of X G v_MOST_TIMES⟩ ⟨_, PySem.W.mg_of X G v_NUMBER_OUT_OF_RANGE⟩ (PySem.W.mg_none_of X G v_int) M_R_at M_R_take M_R_need_byte⟩
  have M_R_take_braces : MOk P w K mg base (L2N.CX P w) C 5 "take_braces" ["self"] (spBraces K C CF) := ⟨_, _, ⟨a_R_take_braces, i_R_take_braces, k_R_take_braces⟩, b_R_take_braces, ok_braces F_R_take_braces T M_R_at M_R_take M_R_take_number⟩
  have M_R_take_times : MOk P w K mg base (L2N.CX P w) C 6 "take_times" ["self"] (spTimes K C CF) := ⟨_, _, ⟨a_R_take_times, i_R_take_times, k_R_take_times⟩, b_R_take_times, ok_times F_R_take_times T TR M_R_at M_R_take_braces M_R_take⟩
  have M_R_take_repetition : MOk P w K mg base (L2N.CX P w) C 7 "take_repetition" ["self"] (spRepS K C CB CF cs) := ⟨_, _, ⟨a_R_take_repetition, i_R_take_repetition, k_R_take_repetition⟩, b_R_take_repetition, ok_repS F_R_take_repetition T TB M_R_take_times M_B_repeat_atom⟩
  have M_R_keep_name : MOk P w K mg base (L2N.CX P w) C 3 "keep_name" ["self", "first_place"] (spKeep K C CB CF cs) := ⟨_, _, ⟨a_R_keep_name, i_R_keep_name, k_R_keep_name⟩, b_R_keep_name, ok_keep F_R_keep_name T ⟨_, PySem.W.mg_of X G v_LONGEST_NAME⟩ ⟨_, PySem.W.mg_of X G v_MOST_NAMES⟩ ⟨_, PySem.W.mg_of X G v_NAME_REFUSED⟩ G_names_in⟩
  have M_R_take_name : MOk P w K mg base (L2N.CX P w) C 4 "take_name" ["self"] (spName K C CB CF cs) := ⟨_, _, ⟨a_R_take_name, i_R_take_name, k_R_take_name⟩, b_R_take_name, ok_name F_R_take_name T ⟨_, PySem.W.mg_of X G v_SMALL_LETTERS⟩ ⟨_, PySem.W.mg_of X G v_NAME_SIGNS⟩ M_R_at M_R_take M_R_need_byte M_R_keep_name⟩
  have M_R_take_opening : MOk P w K mg base (L2N.CX P w) C 5 "take_opening" ["self"] (spOpen K C CB CF cs) := ⟨_, _, ⟨a_R_take_opening, i_R_take_opening, k_R_take_opening⟩, b_R_take_opening, ok_open F_R_take_opening T ⟨_, PySem.W.mg_of X G v_MOST_OPEN⟩ ⟨_, PySem.W.mg_of X G v_TOO_MANY_OPEN⟩ N_B M_R_take M_R_take_name⟩
  have M_R_take_closing : MOk P w K mg base (L2N.CX P w) C 5 "take_closing" ["self"] (spClose K C CB CF cs) := ⟨_, _, ⟨a_R_take_closing, i_R_take_closing, k_R_take_closing⟩, b_R_take_closing, ok_close F_R_take_closing T TB M_R_take M_B_add_atom M_B_made_part⟩
  have M_R_take_next : MOk P w K mg base (L2N.CX P w) C 9 "take_next" ["self"] (spNext K C CB CF cs) := ⟨_, _, ⟨a_R_take_next, i_R_take_next, k_R_take_next⟩, b_R_take_next, ok_next F_R_take_next T TB M_R_at M_R_take M_B_end_row M_R_take_opening M_R_take_closing M_R_take_repetition M_R_take_single_atom M_B_add_atom⟩
  have M_R_made_pattern : MOk P w K mg base (L2N.CX P w) C 5 "made_pattern" ["self"] (spFin K C CB CF CP cs) := ⟨_, _, ⟨a_R_made_pattern, i_R_made_pattern, k_R_made_pattern⟩, b_R_made_pattern, ok_fin F_R_made_pattern T TB ⟨_, PySem.W.mg_of X G v_MOST_ATOMS⟩ ⟨_, PySem.W.mg_of X G v_TOO_MANY_ATOMS⟩ N_P M_B_made_part⟩
  have N_R : NOk P w K mg base C 3 "Reader" ["self", "given"] (spRInit K C CB cs) := ⟨_, _, ⟨mkR, a_R_init, i_R_init, kcR⟩, PySem.W.mg_of X G aR, b_R_init, ok_rinit F_R_init T N_B⟩
  have G_read_pattern : GOk P w K mg base (L2N.CX P w) 10 "read_pattern" ["given"] (spRead K CF CP cs) := ⟨_, _, PySem.W.mg_of X G a_read_pattern, k_read_pattern, b_read_pattern, ok_read F_read_pattern T N_R M_R_take_next M_R_made_pattern⟩
  have G_only : GOk P w K mg base CX0 2 "only" ["place"] (spOnly) := ⟨_, _, PySem.W.mg_of X G a_only, k_only, b_only, ok_only F_only⟩
  have G_lowest_place : GOk P w K mg base CX0 2 "lowest_place" ["places"] (spLow) := ⟨_, _, PySem.W.mg_of X G a_lowest_place, k_lowest_place, b_lowest_place, ok_low F_lowest_place⟩
  have G_highest_place : GOk P w K mg base CX0 2 "highest_place" ["places"] (spHigh) := ⟨_, _, PySem.W.mg_of X G a_highest_place, k_highest_place, b_highest_place, ok_high F_highest_place⟩
  have G_without : GOk P w K mg base CX0 2 "without" ["places", "taken"] (spSans) := ⟨_, _, PySem.W.mg_of X G a_without, k_without, b_without, ok_sans F_without⟩
  have G_staying : GOk P w K mg base CX0 3 "staying" ["count"] (spStay) := ⟨_, _, PySem.W.mg_of X G a_staying, k_staying, b_staying, ok_stay F_staying (PySem.W.mg_none_of X G v_range) G_only⟩
  have G_reached_from : GOk P w K mg base CX0 2 "reached_from" ["places", "reach"] (spRf K) := ⟨_, _, PySem.W.mg_of X G a_reached_from, k_reached_from, b_reached_from, ok_rf F_reached_from⟩
  have G_one_behind_other : GOk P w K mg base CX0 3 "one_behind_other" ["reach", "next_reach"] (spObo K) := ⟨_, _, PySem.W.mg_of X G a_one_behind_other, k_one_behind_other, b_one_behind_other, ok_obo F_one_behind_other G_reached_from⟩
  have G_any_times_onward : GOk P w K mg base CX0 4 "any_times_onward" ["reach"] (spAny K) := ⟨_, _, PySem.W.mg_of X G a_any_times_onward, k_any_times_onward, b_any_times_onward, ok_any F_any_times_onward T.len (PySem.W.mg_none_of X G v_range) G_staying G_without G_lowest_place⟩
  have G_leading_to : GOk P w K mg base CX0 3 "leading_to" ["targets", "reach", "places"] (spLead K) := ⟨_, _, PySem.W.mg_of X G a_leading_to, k_leading_to, b_leading_to, ok_lead F_leading_to (PySem.W.mg_none_of X G v_range) (PySem.W.mg_none_of X G v_min) G_highest_place G_lowest_place⟩
  have G_have_value : GOk P w K mg base CX0 2 "have_value" ["ranges", "value"] (spHave K) := ⟨_, _, PySem.W.mg_of X G a_have_value, k_have_value, b_have_value, ok_have F_have_value⟩
  have G_is_word_value : GOk P w K mg base CX0 3 "is_word_value" ["value"] (spWordV) := ⟨_, _, PySem.W.mg_of X G a_is_word_value, k_is_word_value, b_is_word_value, ok_wordv F_is_word_value TL G_have_value⟩
  have M_T_end_place : MOk P w K mg base CX0 CT 2 "end_place" ["self"] (spEnd CT) := ⟨_, _, ⟨a_T_end_place, i_T_end_place, k_T_end_place⟩, b_T_end_place, ok_end F_T_end_place TT T.len⟩
  have M_T_has_word_value : MOk P w K mg base CX0 CT 4 "has_word_value" ["self", "place"] (spHasW CT) := ⟨_, _, ⟨a_T_has_word_value, i_T_has_word_value, k_T_has_word_value⟩, b_T_has_word_value, ok_hasw F_T_has_word_value TT T.len G_is_word_value⟩
  have M_T_is_word_edge : MOk P w K mg base CX0 CT 5 "is_word_edge" ["self", "place"] (spEdge CT) := ⟨_, _, ⟨a_T_is_word_edge, i_T_is_word_edge, k_T_is_word_edge⟩, b_T_is_word_edge, ok_edge F_T_is_word_edge TT M_T_has_word_value⟩
  have M_T_in_bytes : MOk P w K mg base CX0 CT 2 "in_bytes" ["self", "begin", "end"] (spInB CT) := ⟨_, _, ⟨a_T_in_bytes, i_T_in_bytes, k_T_in_bytes⟩, b_T_in_bytes, ok_inb F_T_in_bytes TT⟩
  have N_T : NOkX P w K mg base (L2N.CX P w) CT 4 "Text" ["self", "given"] (spTInit K CT CF) := ⟨_, _, ⟨mkT, a_T_init, i_T_init, kcT⟩, PySem.W.mg_of X G aT, b_T_init, ok_tinit F_T_init TT T.len G_scalar_at⟩
  have M_s_may_stand : MOk P w K mg base CX0 cs.s 6 "may_stand" ["self", "text", "place"] (spMay cs CT) := ⟨_, _, ⟨a_s_may_stand, i_s_may_stand, k_s_may_stand⟩, b_s_may_stand, ok_may F_s_may_stand TN TT M_T_end_place M_T_is_word_edge⟩
  have M_p_one_time_before : MOk P w K mg base CX0 cs.p 4 "one_time_before" ["self", "times", "reach"] (spOtb K cs) := ⟨_, _, ⟨a_p_one_time_before, i_p_one_time_before, k_p_one_time_before⟩, b_p_one_time_before, ok_otb F_p_one_time_before TN (PySem.W.mg_none_of X G v_enumerate) G_one_behind_other G_only⟩
  have M_p_wanted_next : MOk P w K mg base CX0 cs.p 4 "wanted_next" ["self", "times", "place", "targets"] (spWn cs) := ⟨_, _, ⟨a_p_wanted_next, i_p_wanted_next, k_p_wanted_next⟩, b_p_wanted_next, ok_wn F_p_wanted_next TN T.len (PySem.W.mg_none_of X G v_min) G_leading_to G_without G_only⟩
  have HM : HelpM P w K mg base cs CT := { TN := TN, TT := TT, henum := (PySem.W.mg_none_of X G v_enumerate), hrange := (PySem.W.mg_none_of X G v_range), hrev := (PySem.W.mg_none_of X G v_reversed), hlist := (PySem.W.mg_none_of X G v_list), hzip := (PySem.W.mg_none_of X G v_zip), hlen := T.len, hmin := (PySem.W.mg_none_of X G v_min), mEnd := M_T_end_place, gHave := G_have_value, gOnly := G_only, gStay := G_staying, gObo := G_one_behind_other, gAny := G_any_times_onward, gLead := G_leading_to, gSans := G_without, mMay := M_s_may_stand, mOtb := M_p_one_time_before, mWn := M_p_wanted_next }
  have MMF : MeasF K cs := { o := ⟨_, _, ⟨a_o_measure, i_o_measure, k_o_measure⟩, b_o_measure, F_o_measure⟩, s := ⟨_, _, ⟨a_s_measure, i_s_measure, k_s_measure⟩, b_s_measure, F_s_measure⟩, r := ⟨_, _, ⟨a_r_measure, i_r_measure, k_r_measure⟩, b_r_measure, F_r_measure⟩, c := ⟨_, _, ⟨a_c_measure, i_c_measure, k_c_measure⟩, b_c_measure, F_c_measure⟩, p := ⟨_, _, ⟨a_p_measure, i_p_measure, k_p_measure⟩, b_p_measure, F_p_measure⟩, k := ⟨_, _, ⟨a_k_measure, i_k_measure, k_k_measure⟩, b_k_measure, F_k_measure⟩ }
  have FFF : FollF K cs := { o := ⟨_, _, ⟨a_o_follow, i_o_follow, k_o_follow⟩, b_o_follow, F_o_follow⟩, s := ⟨_, _, ⟨a_s_follow, i_s_follow, k_s_follow⟩, b_s_follow, F_s_follow⟩, r := ⟨_, _, ⟨a_r_follow, i_r_follow, k_r_follow⟩, b_r_follow, F_r_follow⟩, c := ⟨_, _, ⟨a_c_follow, i_c_follow, k_c_follow⟩, b_c_follow, F_c_follow⟩, p := ⟨_, _, ⟨a_p_follow, i_p_follow, k_p_follow⟩, b_p_follow, F_p_follow⟩, k := ⟨_, _, ⟨a_k_follow, i_k_follow, k_k_follow⟩, b_k_follow, F_k_follow⟩ }
  have N_S : NOk P w K mg base CS 204 "Search" ["self", "pattern", "text"] (spSInit K cs CS CP CT) := ⟨_, _, ⟨mkS, a_S_init, i_S_init, kcS⟩, PySem.W.mg_of X G aS, b_S_init, ok_sinit F_S_init TSr TP TN (measure_all MMF HM 196)⟩
  have G_search_of : GOk P w K mg base (L2.CX P w) 206 "search_of" ["p", "t"] (spSO K cs CS CP CT CX) := ⟨_, _, PySem.W.mg_of X G a_search_of, k_search_of, b_search_of, ok_so F_search_of T.len FT RT ⟨_, PySem.W.mg_of X G v_LONGEST⟩ ⟨_, PySem.W.mg_of X G v_TOO_LONG⟩ ⟨_, PySem.W.mg_of X G v_NOT_IN_FORM⟩ G_read_pattern N_T N_S⟩
  have M_S_captures : MOk P w K mg base CX0 CS 203 "captures" ["self", "begin", "end"] (spCaps K cs CS CP CT) := ⟨_, _, ⟨a_S_captures, i_S_captures, k_S_captures⟩, b_S_captures, ok_caps F_S_captures TSr TP TN TT T.len G_only M_T_in_bytes (follow_all FFF HM 196)⟩
  have M_S_first_match : MOk P w K mg base CX0 CS 3 "first_match" ["self", "place"] (spFm K cs CS CP CT) := ⟨_, _, ⟨a_S_first_match, i_S_first_match, k_S_first_match⟩, b_S_first_match, ok_fm F_S_first_match TSr TP TN TT (PySem.W.mg_none_of X G v_range) M_T_end_place G_highest_place⟩
  have M_S_spans : MOk P w K mg base CX0 CS 204 "spans" ["self", "begin", "end"] (spSpans K cs CS CP CT) := ⟨_, _, ⟨a_S_spans, i_S_spans, k_S_spans⟩, b_S_spans, ok_spans F_S_spans TSr TT M_T_in_bytes M_S_captures⟩
  exact ok_call F_find RT TSr TT ⟨_, PySem.W.mg_of X G v_NO_PLACE⟩ G_search_of M_S_first_match M_S_spans
end Pat
end

section
namespace Pat
open PySem PySem.Spec PyProof.Rows L2
open PySem.W (Codec)
theorem text_gv : ∀ ns : List Int, (∀ x ∈ ns, 0 ≤ x ∧ x ≤ 255) → gv (Neutral.text ns) = ns.map V.int
  | [], _ => rfl
  | n :: r, h => by
    have h1 := h n (List.mem_cons_self ..)
    have ih := text_gv r fun x m => h x (List.mem_cons_of_mem _ m)
    show V.int (((UInt8.ofNat n.toNat).toNat : Nat) : Int) :: gv (Neutral.text r) = V.int n :: r.map V.int
    rw [ih]
    have e : (UInt8.ofNat n.toNat).toNat = n.toNat := by
      rw [UInt8.toNat_ofNat']
      omega
    have e2 : ((n.toNat : Nat) : Int) = n := Int.toNat_of_nonneg h1.1
    rw [e, e2]
theorem text_len (ns : List Int) : (Neutral.text ns).length = ns.length := List.length_map _
/-- one list of bytes that is handed in -/
theorem arg_list {K : PySem.W.Frag} {H : Hp} {ap : Addr} {l : List Int} (ha : SqL K H ap (l.map V.int)) (hb : (Codec.inLen 0 1000 l && l.all (Codec.inInt 0 255)) = true) : SqL K H ap (gv (Neutral.text l)) ∧ (Neutral.text l).length ≤ 1000 := by
  rw [Bool.and_eq_true] at hb
  have hb2 : ∀ x ∈ l, 0 ≤ x ∧ x ≤ 255 := fun x m => Codec.inInt_iff.mp (List.all_eq_true.mp hb.2 x m)
  refine ⟨by rw [text_gv l hb2]; exact ha, ?_⟩
  rw [text_len]
  exact (Codec.inNat_iff.mp hb.1).2
end Pat
open PySem PySem.W PyProof.Rows
theorem PySem.Challenge.cw_toldpatterns_s04_find_holds : PySem.Challenge.rw_toldpatterns_s04_find.Holds := by
  w_on; k_headS; (case hw => exact ⟨[.int 0, .list [], .list []], by decide +kernel, by decide +kernel⟩)
  k_fillS
  refine L2.walk_specK (r := PySem.Challenge.rw_toldpatterns_s04_find) (k := 224) (CX := L2.CX0) (ps := ["from_byte", "p", "t"]) (sp := Pat.spCall) (by decide +kernel) rfl rfl ⟨rfl, by decide, by decide⟩ (fun w h Y => PySem.W.kIn_of Y) ?F ?S (fun _ _ _ _ z => z)
  case F =>
    intro w mg fa h Y KX G hmg
    refine' Pat.all_mk KX G hmg ?aR ?pgR ?hdR ?poR ?saR ?mkR ?kcR ?nR_given ?nR_place ?nR_names ?nR_brackets ?a_R_init ?i_R_init ?l_R_init ?c_R_init ?k_R_init ?a_R_need_byte ?i_R_need_byte ?l_R_need_byte ?c_R_need_byte ?k_R_need_byte ?a_R_at ?i_R_at ?l_R_at ?c_R_at ?k_R_at ?a_R_take ?i_R_take ?l_R_take ?c_R_take ?k_R_take ?a_R_take_plain ?i_R_take_plain ?l_R_take_plain ?c_R_take_plain ?k_R_take_plain ?a_R_take_escape ?i_R_take_escape ?l_R_take_escape ?c_R_take_escape ?k_R_take_escape ?a_R_take_one ?i_R_take_one ?l_R_take_one ?c_R_take_one ?k_R_take_one ?a_R_take_part ?i_R_take_part ?l_R_take_part ?c_R_take_part ?k_R_take_part ?a_R_take_set ?i_R_take_set ?l_R_take_set ?c_R_take_set ?k_R_take_set ?a_R_take_escaped_atom ?i_R_take_escaped_atom ?l_R_take_escaped_atom ?c_R_take_escaped_atom ?k_R_take_escaped_atom ?a_R_take_single_atom ?i_R_take_single_atom ?l_R_take_single_atom ?c_R_take_single_atom ?k_R_take_single_atom ?a_R_take_number ?i_R_take_number ?l_R_take_number ?c_R_take_number ?k_R_take_number ?a_R_take_braces ?i_R_take_braces ?l_R_take_braces ?c_R_take_braces ?k_R_take_braces ?a_R_take_times ?i_R_take_times ?l_R_take_times ?c_R_take_times ?k_R_take_times ?a_R_take_repetition ?i_R_take_repetition ?l_R_take_repetition ?c_R_take_repetition ?k_R_take_repetition ?a_R_keep_name ?i_R_keep_name ?l_R_keep_name ?c_R_keep_name ?k_R_keep_name ?a_R_take_name ?i_R_take_name ?l_R_take_name ?c_R_take_name ?k_R_take_name ?a_R_take_opening ?i_R_take_opening ?l_R_take_opening ?c_R_take_opening ?k_R_take_opening ?a_R_take_closing ?i_R_take_closing ?l_R_take_closing ?c_R_take_closing ?k_R_take_closing ?a_R_take_next ?i_R_take_next ?l_R_take_next ?c_R_take_next ?k_R_take_next ?a_R_made_pattern ?i_R_made_pattern ?l_R_made_pattern ?c_R_made_pattern ?k_R_made_pattern ?aB ?pgB ?hdB ?poB ?saB ?mkB ?kcB ?nB_closing ?nB_number ?nB_rows ?nB_atoms ?nB_last_atoms ?a_B_init ?i_B_init ?l_B_init ?c_B_init ?k_B_init ?a_B_add_atom ?i_B_add_atom ?l_B_add_atom ?c_B_add_atom ?k_B_add_atom ?a_B_repeat_atom ?i_B_repeat_atom ?l_B_repeat_atom ?c_B_repeat_atom ?k_B_repeat_atom ?a_B_end_row ?i_B_end_row ?l_B_end_row ?c_B_end_row ?k_B_end_row ?a_B_made_part ?i_B_made_part ?l_B_made_part ?c_B_made_part ?k_B_made_part ?aP ?pgP ?hdP ?poP ?saP ?mkP ?kcP ?nP_names ?nP_body ?a_P_init ?i_P_init ?l_P_init ?c_P_init ?k_P_init ?ao ?pgo ?hdo ?poo ?sao ?mko ?kco ?no_ranges ?no_inverted ?no_reach ?a_o_init ?i_o_init ?l_o_init ?c_o_init ?k_o_init ?a_o_measure ?i_o_measure ?l_o_measure ?c_o_measure ?k_o_measure ?a_o_follow ?i_o_follow ?l_o_follow ?c_o_follow ?k_o_follow ?as ?pgs ?hds ?pos ?sas ?mks ?kcs ?ns_sign ?ns_reach ?a_s_init ?i_s_init ?l_s_init ?c_s_init ?k_s_init ?a_s_may_stand ?i_s_may_stand ?l_s_may_stand ?c_s_may_stand ?k_s_may_stand ?a_s_measure ?i_s_measure ?l_s_measure ?c_s_measure ?k_s_measure ?a_s_follow ?i_s_follow ?l_s_follow ?c_s_follow ?k_s_follow ?ar ?pgr ?hdr ?por ?sar ?mkr ?kcr ?nr_steps ?nr_reach ?nr_reach_after ?a_r_init ?i_r_init ?l_r_init ?c_r_init ?k_r_init ?a_r_measure ?i_r_measure ?l_r_measure ?c_r_measure ?k_r_measure ?a_r_follow ?i_r_follow ?l_r_follow ?c_r_follow ?k_r_follow ?ac ?pgc ?hdc ?poc ?sac ?mkc ?kcc ?nc_rows ?nc_reach ?a_c_init ?i_c_init ?l_c_init ?c_c_init ?k_c_init ?a_c_measure ?i_c_measure ?l_c_measure ?c_c_measure ?k_c_measure ?a_c_follow ?i_c_follow ?l_c_follow ?c_c_follow ?k_c_follow ?ap ?pgp ?hdp ?pop ?sap ?mkp ?kcp ?np_body ?np_least ?np_most ?np_reach ?np_reach_after ?a_p_init ?i_p_init ?l_p_init ?c_p_init ?k_p_init ?a_p_measure ?i_p_measure ?l_p_measure ?c_p_measure ?k_p_measure ?a_p_one_time_before ?i_p_one_time_before ?l_p_one_time_before ?c_p_one_time_before ?k_p_one_time_before ?a_p_wanted_next ?i_p_wanted_next ?l_p_wanted_next ?c_p_wanted_next ?k_p_wanted_next ?a_p_follow ?i_p_follow ?l_p_follow ?c_p_follow ?k_p_follow ?ak ?pgk ?hdk ?pok ?sak ?mkk ?kck ?nk_number ?nk_body ?nk_reach ?a_k_init ?i_k_init ?l_k_init ?c_k_init ?k_k_init ?a_k_measure ?i_k_measure ?l_k_measure ?c_k_measure ?k_k_measure ?a_k_follow ?i_k_follow ?l_k_follow ?c_k_follow ?k_k_follow ?aT ?pgT ?hdT ?poT ?saT ?mkT ?kcT ?nT_scalars ?nT_first_bytes ?a_T_init ?i_T_init ?l_T_init ?c_T_init ?k_T_init ?a_T_end_place ?i_T_end_place ?l_T_end_place ?c_T_end_place ?k_T_end_place ?a_T_has_word_value ?i_T_has_word_value ?l_T_has_word_value ?c_T_has_word_value ?k_T_has_word_value ?a_T_is_word_edge ?i_T_is_word_edge ?l_T_is_word_edge ?c_T_is_word_edge ?k_T_is_word_edge ?a_T_in_bytes ?i_T_in_bytes ?l_T_in_bytes ?c_T_in_bytes ?k_T_in_bytes ?aS ?pgS ?hdS ?poS ?saS ?mkS ?kcS ?nS_pattern ?nS_text ?a_S_init ?i_S_init ?l_S_init ?c_S_init ?k_S_init ?a_S_first_match ?i_S_first_match ?l_S_first_match ?c_S_first_match ?k_S_first_match ?a_S_captures ?i_S_captures ?l_S_captures ?c_S_captures ?k_S_captures ?a_S_spans ?i_S_spans ?l_S_spans ?c_S_spans ?k_S_spans ?a_just_one ?l_just_one ?c_just_one ?k_just_one ?a_is_just_one ?l_is_just_one ?c_is_just_one ?k_is_just_one ?a_every_value ?l_every_value ?c_every_value ?k_every_value ?a_all_but ?l_all_but ?c_all_but ?k_all_but ?a_listed_ranges ?l_listed_ranges ?c_listed_ranges ?k_listed_ranges ?a_row_of ?l_row_of ?c_row_of ?k_row_of ?a_choice_of ?l_choice_of ?c_choice_of ?k_choice_of ?a_following_bytes ?l_following_bytes ?c_following_bytes ?k_following_bytes ?a_scalar_at ?l_scalar_at ?c_scalar_at ?k_scalar_at ?a_escape_ranges ?l_escape_ranges ?c_escape_ranges ?k_escape_ranges ?a_names_in ?l_names_in ?c_names_in ?k_names_in ?a_read_pattern ?l_read_pattern ?c_read_pattern ?k_read_pattern ?a_only ?l_only ?c_only ?k_only ?a_lowest_place ?l_lowest_place ?c_lowest_place ?k_lowest_place ?a_highest_place ?l_highest_place ?c_highest_place ?k_highest_place ?a_without ?l_without ?c_without ?k_without ?a_staying ?l_staying ?c_staying ?k_staying ?a_reached_from ?l_reached_from ?c_reached_from ?k_reached_from ?a_one_behind_other ?l_one_behind_other ?c_one_behind_other ?k_one_behind_other ?a_any_times_onward ?l_any_times_onward ?c_any_times_onward ?k_any_times_onward ?a_have_value ?l_have_value ?c_have_value ?k_have_value ?a_is_word_value ?l_is_word_value ?c_is_word_value ?k_is_word_value ?a_search_of ?l_search_of ?c_search_of ?k_search_of ?a_leading_to ?l_leading_to ?c_leading_to ?k_leading_to ?a_find ?l_find ?c_find ?k_find ?aFT ?xLFT ?saFT ?gaFT ?ggFT ?nFT_kind ?nFT_place ?a1FT ?t1FT ?l1FT ?c1FT ?kCFT ?eCFT ?tCFT ?hCFT ?iCFT ?sCFT ?aRT ?xLRT ?saRT ?gaRT ?ggRT ?nRT_answer ?a1RT ?t1RT ?l1RT ?c1RT ?kCRT ?eCRT ?tCRT ?hCRT ?iCRT ?sCRT ?v_ENDS_TOO_SOON ?v_CANNOT_STAND ?v_NUMBER_OUT_OF_RANGE ?v_NAME_REFUSED ?v_TOO_MANY_OPEN ?v_ENDS_IN_WRONG_ORDER ?v_TOO_MANY_ATOMS ?v_MOST_TIMES ?v_MOST_NAMES ?v_LONGEST_NAME ?v_MOST_OPEN ?v_MOST_ATOMS ?v_LONGEST ?v_TOO_LONG ?v_NOT_IN_FORM ?v_GREATEST ?v_NO_PLACE ?v_FIGURES ?v_SMALL_LETTERS ?v_NAME_SIGNS ?v_SIGNS ?v_SET_SIGNS ?v_END_ESCAPES ?v_PART_ESCAPES ?v_ATOM_ESCAPES ?v_LISTED_ESCAPES ?v_len ?v_ord ?v_range ?v_int ?v_max ?v_list ?v_enumerate ?v_reversed ?v_zip ?v_min ?dL ?dLl ?dH ?dHl ?dC ?dCl ?dM ?dMl ?dR ?dRl ?dR100 ?dR119 ?dR115 ?dR68 ?dR87 ?dR83 ?s_d6 ?s_g1 ?s_d7 ?s_g2 ?s_g3 ?s_g4 ?s_g5 ?s_d8 ?s_g6 ?s_g7 ?dP ?dPl ?dP42 ?dP43 ?dP63 ?s_g8 ?s_g9 ?s_g10 ?lo1 ?lo2 ?lo3 ?lo5
    (case aR => k_is)
    (case pgR => k_is)
    (case hdR => k_is)
    (case poR => k_is)
    (case saR => k_is)
    (case mkR => k_is)
    (case kcR => k_is)
    (case nR_given => k_is)
    (case nR_place => k_is)
    (case nR_names => k_is)
    (case nR_brackets => k_is)
    (case a_R_init => k_is)
    (case i_R_init => k_is)
    (case l_R_init => k_is)
    (case c_R_init => k_is)
    (case k_R_init => k_is)
    (case a_R_need_byte => k_is)
    (case i_R_need_byte => k_is)
    (case l_R_need_byte => k_is)
    (case c_R_need_byte => k_is)
    (case k_R_need_byte => k_is)
    (case a_R_at => k_is)
    (case i_R_at => k_is)
    (case l_R_at => k_is)
    (case c_R_at => k_is)
    (case k_R_at => k_is)
    (case a_R_take => k_is)
    (case i_R_take => k_is)
    (case l_R_take => k_is)
    (case c_R_take => k_is)
    (case k_R_take => k_is)
    (case a_R_take_plain => k_is)
    (case i_R_take_plain => k_is)
    (case l_R_take_plain => k_is)
    (case c_R_take_plain => k_is)
    (case k_R_take_plain => k_is)
    (case a_R_take_escape => k_is)
    (case i_R_take_escape => k_is)
    (case l_R_take_escape => k_is)
    (case c_R_take_escape => k_is)
    (case k_R_take_escape => k_is)
    (case a_R_take_one => k_is)
    (case i_R_take_one => k_is)
    (case l_R_take_one => k_is)
    (case c_R_take_one => k_is)
    (case k_R_take_one => k_is)
    (case a_R_take_part => k_is)
    (case i_R_take_part => k_is)
    (case l_R_take_part => k_is)
    (case c_R_take_part => k_is)
    (case k_R_take_part => k_is)
    (case a_R_take_set => k_is)
    (case i_R_take_set => k_is)
    (case l_R_take_set => k_is)
    (case c_R_take_set => k_is)
    (case k_R_take_set => k_is)
    (case a_R_take_escaped_atom => k_is)
    (case i_R_take_escaped_atom => k_is)
    (case l_R_take_escaped_atom => k_is)
    (case c_R_take_escaped_atom => k_is)
    (case k_R_take_escaped_atom => k_is)
    (case a_R_take_single_atom => k_is)
    (case i_R_take_single_atom => k_is)
    (case l_R_take_single_atom => k_is)
    (case c_R_take_single_atom => k_is)
    (case k_R_take_single_atom => k_is)
    (case a_R_take_number => k_is)
    (case i_R_take_number => k_is)
    (case l_R_take_number => k_is)
    (case c_R_take_number => k_is)
    (case k_R_take_number => k_is)
    (case a_R_take_braces => k_is)
    (case i_R_take_braces => k_is)
    (case l_R_take_braces => k_is)
    (case c_R_take_braces => k_is)
    (case k_R_take_braces => k_is)
    (case a_R_take_times => k_is)
    (case i_R_take_times => k_is)
    (case l_R_take_times => k_is)
    (case c_R_take_times => k_is)
    (case k_R_take_times => k_is)
    (case a_R_take_repetition => k_is)
    (case i_R_take_repetition => k_is)
    (case l_R_take_repetition => k_is)
    (case c_R_take_repetition => k_is)
    (case k_R_take_repetition => k_is)
    (case a_R_keep_name => k_is)
    (case i_R_keep_name => k_is)
    (case l_R_keep_name => k_is)
    (case c_R_keep_name => k_is)
    (case k_R_keep_name => k_is)
    (case a_R_take_name => k_is)
    (case i_R_take_name => k_is)
    (case l_R_take_name => k_is)
    (case c_R_take_name => k_is)
    (case k_R_take_name => k_is)
    (case a_R_take_opening => k_is)
    (case i_R_take_opening => k_is)
    (case l_R_take_opening => k_is)
    (case c_R_take_opening => k_is)
    (case k_R_take_opening => k_is)
    (case a_R_take_closing => k_is)
    (case i_R_take_closing => k_is)
    (case l_R_take_closing => k_is)
    (case c_R_take_closing => k_is)
    (case k_R_take_closing => k_is)
    (case a_R_take_next => k_is)
    (case i_R_take_next => k_is)
    (case l_R_take_next => k_is)
    (case c_R_take_next => k_is)
    (case k_R_take_next => k_is)
    (case a_R_made_pattern => k_is)
    (case i_R_made_pattern => k_is)
    (case l_R_made_pattern => k_is)
    (case c_R_made_pattern => k_is)
    (case k_R_made_pattern => k_is)
    (case aB => k_is)
    (case pgB => k_is)
    (case hdB => k_is)
    (case poB => k_is)
    (case saB => k_is)
    (case mkB => k_is)
    (case kcB => k_is)
    (case nB_closing => k_is)
    (case nB_number => k_is)
    (case nB_rows => k_is)
    (case nB_atoms => k_is)
    (case nB_last_atoms => k_is)
    (case a_B_init => k_is)
    (case i_B_init => k_is)
    (case l_B_init => k_is)
    (case c_B_init => k_is)
    (case k_B_init => k_is)
    (case a_B_add_atom => k_is)
    (case i_B_add_atom => k_is)
    (case l_B_add_atom => k_is)
    (case c_B_add_atom => k_is)
    (case k_B_add_atom => k_is)
    (case a_B_repeat_atom => k_is)
    (case i_B_repeat_atom => k_is)
    (case l_B_repeat_atom => k_is)
    (case c_B_repeat_atom => k_is)
    (case k_B_repeat_atom => k_is)
    (case a_B_end_row => k_is)
    (case i_B_end_row => k_is)
    (case l_B_end_row => k_is)
    (case c_B_end_row => k_is)
    (case k_B_end_row => k_is)
    (case a_B_made_part => k_is)
    (case i_B_made_part => k_is)
    (case l_B_made_part => k_is)
    (case c_B_made_part => k_is)
    (case k_B_made_part => k_is)
    (case aP => k_is)
    (case pgP => k_is)
    (case hdP => k_is)
    (case poP => k_is)
    (case saP => k_is)
    (case mkP => k_is)
    (case kcP => k_is)
    (case nP_names => k_is)
    (case nP_body => k_is)
    (case a_P_init => k_is)
    (case i_P_init => k_is)
    (case l_P_init => k_is)
    (case c_P_init => k_is)
    (case k_P_init => k_is)
    (case ao => k_is)
    (case pgo => k_is)
    (case hdo => k_is)
    (case poo => k_is)
    (case sao => k_is)
    (case mko => k_is)
    (case kco => k_is)
    (case no_ranges => k_is)
    (case no_inverted => k_is)
    (case no_reach => k_is)
    (case a_o_init => k_is)
    (case i_o_init => k_is)
    (case l_o_init => k_is)
    (case c_o_init => k_is)
    (case k_o_init => k_is)
    (case a_o_measure => k_is)
    (case i_o_measure => k_is)
    (case l_o_measure => k_is)
    (case c_o_measure => k_is)
    (case k_o_measure => k_is)
    (case a_o_follow => k_is)
    (case i_o_follow => k_is)
    (case l_o_follow => k_is)
    (case c_o_follow => k_is)
    (case k_o_follow => k_is)
    (case as => k_is)
    (case pgs => k_is)
    (case hds => k_is)
    (case pos => k_is)
    (case sas => k_is)
    (case mks => k_is)
    (case kcs => k_is)
    (case ns_sign => k_is)
    (case ns_reach => k_is)
    (case a_s_init => k_is)
    (case i_s_init => k_is)
    (case l_s_init => k_is)
    (case c_s_init => k_is)
    (case k_s_init => k_is)
    (case a_s_may_stand => k_is)
    (case i_s_may_stand => k_is)
    (case l_s_may_stand => k_is)
    (case c_s_may_stand => k_is)
    (case k_s_may_stand => k_is)
    (case a_s_measure => k_is)
    (case i_s_measure => k_is)
    (case l_s_measure => k_is)
    (case c_s_measure => k_is)
    (case k_s_measure => k_is)
    (case a_s_follow => k_is)
    (case i_s_follow => k_is)
    (case l_s_follow => k_is)
    (case c_s_follow => k_is)
    (case k_s_follow => k_is)
    (case ar => k_is)
    (case pgr => k_is)
    (case hdr => k_is)
    (case por => k_is)
    (case sar => k_is)
    (case mkr => k_is)
    (case kcr => k_is)
    (case nr_steps => k_is)
    (case nr_reach => k_is)
    (case nr_reach_after => k_is)
    (case a_r_init => k_is)
    (case i_r_init => k_is)
    (case l_r_init => k_is)
    (case c_r_init => k_is)
    (case k_r_init => k_is)
    (case a_r_measure => k_is)
    (case i_r_measure => k_is)
    (case l_r_measure => k_is)
    (case c_r_measure => k_is)
    (case k_r_measure => k_is)
    (case a_r_follow => k_is)
    (case i_r_follow => k_is)
    (case l_r_follow => k_is)
    (case c_r_follow => k_is)
    (case k_r_follow => k_is)
    (case ac => k_is)
    (case pgc => k_is)
    (case hdc => k_is)
    (case poc => k_is)
    (case sac => k_is)
    (case mkc => k_is)
    (case kcc => k_is)
    (case nc_rows => k_is)
    (case nc_reach => k_is)
    (case a_c_init => k_is)
    (case i_c_init => k_is)
    (case l_c_init => k_is)
    (case c_c_init => k_is)
    (case k_c_init => k_is)
    (case a_c_measure => k_is)
    (case i_c_measure => k_is)
    (case l_c_measure => k_is)
    (case c_c_measure => k_is)
    (case k_c_measure => k_is)
    (case a_c_follow => k_is)
    (case i_c_follow => k_is)
    (case l_c_follow => k_is)
    (case c_c_follow => k_is)
    (case k_c_follow => k_is)
    (case ap => k_is)
    (case pgp => k_is)
    (case hdp => k_is)
    (case pop => k_is)
    (case sap => k_is)
    (case mkp => k_is)
    (case kcp => k_is)
    (case np_body => k_is)
    (case np_least => k_is)
    (case np_most => k_is)
    (case np_reach => k_is)
    (case np_reach_after => k_is)
    (case a_p_init => k_is)
    (case i_p_init => k_is)
    (case l_p_init => k_is)
    (case c_p_init => k_is)
    (case k_p_init => k_is)
    (case a_p_measure => k_is)
    (case i_p_measure => k_is)
    (case l_p_measure => k_is)
    (case c_p_measure => k_is)
    (case k_p_measure => k_is)
    (case a_p_one_time_before => k_is)
    (case i_p_one_time_before => k_is)
    (case l_p_one_time_before => k_is)
    (case c_p_one_time_before => k_is)
    (case k_p_one_time_before => k_is)
    (case a_p_wanted_next => k_is)
    (case i_p_wanted_next => k_is)
    (case l_p_wanted_next => k_is)
    (case c_p_wanted_next => k_is)
    (case k_p_wanted_next => k_is)
    (case a_p_follow => k_is)
    (case i_p_follow => k_is)
    (case l_p_follow => k_is)
    (case c_p_follow => k_is)
    (case k_p_follow => k_is)
    (case ak => k_is)
    (case pgk => k_is)
    (case hdk => k_is)
    (case pok => k_is)
    (case sak => k_is)
    (case mkk => k_is)
    (case kck => k_is)
    (case nk_number => k_is)
    (case nk_body => k_is)
    (case nk_reach => k_is)
    (case a_k_init => k_is)
    (case i_k_init => k_is)
    (case l_k_init => k_is)
    (case c_k_init => k_is)
    (case k_k_init => k_is)
    (case a_k_measure => k_is)
    (case i_k_measure => k_is)
    (case l_k_measure => k_is)
    (case c_k_measure => k_is)
    (case k_k_measure => k_is)
    (case a_k_follow => k_is)
    (case i_k_follow => k_is)
    (case l_k_follow => k_is)
    (case c_k_follow => k_is)
    (case k_k_follow => k_is)
    (case aT => k_is)
    (case pgT => k_is)
    (case hdT => k_is)
    (case poT => k_is)
    (case saT => k_is)
    (case mkT => k_is)
    (case kcT => k_is)
    (case nT_scalars => k_is)
    (case nT_first_bytes => k_is)
    (case a_T_init => k_is)
    (case i_T_init => k_is)
    (case l_T_init => k_is)
    (case c_T_init => k_is)
    (case k_T_init => k_is)
    (case a_T_end_place => k_is)
    (case i_T_end_place => k_is)
    (case l_T_end_place => k_is)
    (case c_T_end_place => k_is)
    (case k_T_end_place => k_is)
    (case a_T_has_word_value => k_is)
    (case i_T_has_word_value => k_is)
    (case l_T_has_word_value => k_is)
    (case c_T_has_word_value => k_is)
    (case k_T_has_word_value => k_is)
    (case a_T_is_word_edge => k_is)
    (case i_T_is_word_edge => k_is)
    (case l_T_is_word_edge => k_is)
    (case c_T_is_word_edge => k_is)
    (case k_T_is_word_edge => k_is)
    (case a_T_in_bytes => k_is)
    (case i_T_in_bytes => k_is)
    (case l_T_in_bytes => k_is)
    (case c_T_in_bytes => k_is)
    (case k_T_in_bytes => k_is)
    (case aS => k_is)
    (case pgS => k_is)
    (case hdS => k_is)
    (case poS => k_is)
    (case saS => k_is)
    (case mkS => k_is)
    (case kcS => k_is)
    (case nS_pattern => k_is)
    (case nS_text => k_is)
    (case a_S_init => k_is)
    (case i_S_init => k_is)
    (case l_S_init => k_is)
    (case c_S_init => k_is)
    (case k_S_init => k_is)
    (case a_S_first_match => k_is)
    (case i_S_first_match => k_is)
    (case l_S_first_match => k_is)
    (case c_S_first_match => k_is)
    (case k_S_first_match => k_is)
    (case a_S_captures => k_is)
    (case i_S_captures => k_is)
    (case l_S_captures => k_is)
    (case c_S_captures => k_is)
    (case k_S_captures => k_is)
    (case a_S_spans => k_is)
    (case i_S_spans => k_is)
    (case l_S_spans => k_is)
    (case c_S_spans => k_is)
    (case k_S_spans => k_is)
    (case a_just_one => k_is)
    (case l_just_one => k_is)
    (case c_just_one => k_is)
    (case k_just_one => k_is)
    (case a_is_just_one => k_is)
    (case l_is_just_one => k_is)
    (case c_is_just_one => k_is)
    (case k_is_just_one => k_is)
    (case a_every_value => k_is)
    (case l_every_value => k_is)
    (case c_every_value => k_is)
    (case k_every_value => k_is)
    (case a_all_but => k_is)
    (case l_all_but => k_is)
    (case c_all_but => k_is)
    (case k_all_but => k_is)
    (case a_listed_ranges => k_is)
    (case l_listed_ranges => k_is)
    (case c_listed_ranges => k_is)
    (case k_listed_ranges => k_is)
    (case a_row_of => k_is)
    (case l_row_of => k_is)
    (case c_row_of => k_is)
    (case k_row_of => k_is)
    (case a_choice_of => k_is)
    (case l_choice_of => k_is)
    (case c_choice_of => k_is)
    (case k_choice_of => k_is)
    (case a_following_bytes => k_is)
    (case l_following_bytes => k_is)
    (case c_following_bytes => k_is)
    (case k_following_bytes => k_is)
    (case a_scalar_at => k_is)
    (case l_scalar_at => k_is)
    (case c_scalar_at => k_is)
    (case k_scalar_at => k_is)
    (case a_escape_ranges => k_is)
    (case l_escape_ranges => k_is)
    (case c_escape_ranges => k_is)
    (case k_escape_ranges => k_is)
    (case a_names_in => k_is)
    (case l_names_in => k_is)
    (case c_names_in => k_is)
    (case k_names_in => k_is)
    (case a_read_pattern => k_is)
    (case l_read_pattern => k_is)
    (case c_read_pattern => k_is)
    (case k_read_pattern => k_is)
    (case a_only => k_is)
    (case l_only => k_is)
    (case c_only => k_is)
    (case k_only => k_is)
    (case a_lowest_place => k_is)
    (case l_lowest_place => k_is)
    (case c_lowest_place => k_is)
    (case k_lowest_place => k_is)
    (case a_highest_place => k_is)
    (case l_highest_place => k_is)
    (case c_highest_place => k_is)
    (case k_highest_place => k_is)
    (case a_without => k_is)
    (case l_without => k_is)
    (case c_without => k_is)
    (case k_without => k_is)
    (case a_staying => k_is)
    (case l_staying => k_is)
    (case c_staying => k_is)
    (case k_staying => k_is)
    (case a_reached_from => k_is)
    (case l_reached_from => k_is)
    (case c_reached_from => k_is)
    (case k_reached_from => k_is)
    (case a_one_behind_other => k_is)
    (case l_one_behind_other => k_is)
    (case c_one_behind_other => k_is)
    (case k_one_behind_other => k_is)
    (case a_any_times_onward => k_is)
    (case l_any_times_onward => k_is)
    (case c_any_times_onward => k_is)
    (case k_any_times_onward => k_is)
    (case a_have_value => k_is)
    (case l_have_value => k_is)
    (case c_have_value => k_is)
    (case k_have_value => k_is)
    (case a_is_word_value => k_is)
    (case l_is_word_value => k_is)
    (case c_is_word_value => k_is)
    (case k_is_word_value => k_is)
    (case a_search_of => k_is)
    (case l_search_of => k_is)
    (case c_search_of => k_is)
    (case k_search_of => k_is)
    (case a_leading_to => k_is)
    (case l_leading_to => k_is)
    (case c_leading_to => k_is)
    (case k_leading_to => k_is)
    (case a_find => k_is)
    (case l_find => k_is)
    (case c_find => k_is)
    (case k_find => k_is)
    (case aFT => k_is)
    (case xLFT => k_is)
    (case saFT => k_is)
    (case gaFT => k_is)
    (case ggFT => k_is)
    (case nFT_kind => k_is)
    (case nFT_place => k_is)
    (case a1FT => k_is)
    (case t1FT => k_is)
    (case l1FT => k_is)
    (case c1FT => k_is)
    (case kCFT => k_is)
    (case eCFT => k_is)
    (case tCFT => k_is)
    (case hCFT => k_is)
    (case iCFT => k_is)
    (case sCFT => first | rfl | k_is)
    (case aRT => k_is)
    (case xLRT => k_is)
    (case saRT => k_is)
    (case gaRT => k_is)
    (case ggRT => k_is)
    (case nRT_answer => k_is)
    (case a1RT => k_is)
    (case t1RT => k_is)
    (case l1RT => k_is)
    (case c1RT => k_is)
    (case kCRT => k_is)
    (case eCRT => k_is)
    (case tCRT => k_is)
    (case hCRT => k_is)
    (case iCRT => k_is)
    (case sCRT => first | rfl | k_is)
    (case v_ENDS_TOO_SOON => k_is)
    (case v_CANNOT_STAND => k_is)
    (case v_NUMBER_OUT_OF_RANGE => k_is)
    (case v_NAME_REFUSED => k_is)
    (case v_TOO_MANY_OPEN => k_is)
    (case v_ENDS_IN_WRONG_ORDER => k_is)
    (case v_TOO_MANY_ATOMS => k_is)
    (case v_MOST_TIMES => k_is)
    (case v_MOST_NAMES => k_is)
    (case v_LONGEST_NAME => k_is)
    (case v_MOST_OPEN => k_is)
    (case v_MOST_ATOMS => k_is)
    (case v_LONGEST => k_is)
    (case v_TOO_LONG => k_is)
    (case v_NOT_IN_FORM => k_is)
    (case v_GREATEST => k_is)
    (case v_NO_PLACE => k_is)
    (case v_FIGURES => k_is)
    (case v_SMALL_LETTERS => k_is)
    (case v_NAME_SIGNS => k_is)
    (case v_SIGNS => k_is)
    (case v_SET_SIGNS => k_is)
    (case v_END_ESCAPES => k_is)
    (case v_PART_ESCAPES => k_is)
    (case v_ATOM_ESCAPES => k_is)
    (case v_LISTED_ESCAPES => k_is)
    (case v_len => k_is)
    (case v_ord => k_is)
    (case v_range => k_is)
    (case v_int => k_is)
    (case v_max => k_is)
    (case v_list => k_is)
    (case v_enumerate => k_is)
    (case v_reversed => k_is)
    (case v_zip => k_is)
    (case v_min => k_is)
    (case dL => k_is)
    (case dLl => k_is)
    (case dH => k_is)
    (case dHl => k_is)
    (case dC => k_is)
    (case dCl => k_is)
    (case dM => k_is)
    (case dMl => k_is)
    (case dR => k_is)
    (case dRl => k_is)
    (case dR100 => k_is)
    (case dR119 => k_is)
    (case dR115 => k_is)
    (case dR68 => k_is)
    (case dR87 => k_is)
    (case dR83 => k_is)
    (case s_d6 => k_is)
    (case s_g1 => k_is)
    (case s_d7 => k_is)
    (case s_g2 => k_is)
    (case s_g3 => k_is)
    (case s_g4 => k_is)
    (case s_g5 => k_is)
    (case s_d8 => k_is)
    (case s_g6 => k_is)
    (case s_g7 => k_is)
    (case dP => k_is)
    (case dPl => k_is)
    (case dP42 => k_is)
    (case dP43 => k_is)
    (case dP63 => k_is)
    (case s_g8 => k_is)
    (case s_g9 => k_is)
    (case s_g10 => k_is)
    (case lo1 => decide +kernel)
    (case lo2 => decide +kernel)
    (case lo3 => decide +kernel)
    (case lo5 => decide +kernel)
  case S =>
    intro K H xs a hO hwi hask hx
    cases hx with
    | cons h0 h1 =>
      cases h1 with
      | cons h1 h2 =>
        cases h2 with
        | cons h3 h4 =>
          cases h4
          cases h0
          cases h1 with
          | lst hs1 ha1 =>
            cases h3 with
            | lst hs2 ha2 =>
              have e1 := L2.ints_dw a.2.1 _ ha1
              have e2 := L2.ints_dw a.2.2.1 _ ha2
              subst e1 e2
              have q : (Codec.inInt (-1000000000000000000) 1000000000000000000 a.1 && ((Codec.inLen 0 1000 a.2.1 && a.2.1.all (Codec.inInt 0 255)) && ((Codec.inLen 0 1000 a.2.2.1 && a.2.2.1.all (Codec.inInt 0 255)) && true))) = true := hwi
              rw [Bool.and_true, Bool.and_eq_true, Bool.and_eq_true] at q
              obtain ⟨s1, l1⟩ := Pat.arg_list hs1 q.2.1
              obtain ⟨s2, l2⟩ := Pat.arg_list hs2 q.2.2
              refine ⟨_, _, Neutral.text a.2.1, Neutral.text a.2.2.1, a.1, rfl, s1, s2, l1, l2, fun H' p hp => ?_⟩
              rw [← Answers.find_is] at hp
              exact .lst (L2.SqL.of hp) (L2.dw_ints _)
#print axioms PySem.Challenge.cw_toldpatterns_s04_find_holds
end
