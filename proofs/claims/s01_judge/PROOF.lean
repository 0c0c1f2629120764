import PyProof.Rows.All
import Wide.All
import OpenK.AllK
import Wide.FinOn
import PyProof.EqAt
import PyProof.EqKinds
import PyProof.TupleCall
import Open.SpecLaws
import KE.OsGo
import HandS.ForSpec
import HandS.ExcSuper
import HandS.ExcField
import HandS.ExcCtx
import HandS.Hot
import HandS.HotCalls
import HandS.SuiteRaise
import HandS.ForMost
import HandS.Walk
import HandS.More
import HandS.WideBits
import HandS.Text
import HandS.Flow
import PySem.Challenge.RW_toldpatterns_s01_judge
import HandS.Deep
set_option Elab.async false
set_option linter.all false
set_option maxRecDepth 100000
set_option maxHeartbeats 8000000
section
/-! # An own error over Exception whose __init__ stores two fields, kind and place: made, raised (after skel/42_own_error_by_import) -/
namespace PySem
namespace FaultX
open PySem.W PySem.Calls PyProof.Rows PySem.HandSPX
def iA (p1 p2 p3 : Pos) : Arguments := { posonlyargs := [], args := [{ arg := "self", annotation := none, pos := p1 }, { arg := "kind", annotation := none, pos := p2 }, { arg := "place", annotation := none, pos := p3 }], vararg := none, kwonlyargs := [], kw_defaults := [], kwarg := none, defaults := [] }
def iB (q1 q2 q3 q4 q5 q6 q7 q8 : Pos) : List Stmt := [.Assign [.Attribute (.Name "self" q1) "kind" q2] (.Name "kind" q3) q4, .Assign [.Attribute (.Name "self" q5) "place" q6] (.Name "place" q7) q8]
def iS : Scope := { kind := .function, names := [(PySem.Str.ofString "self", .local), (PySem.Str.ofString "kind", .local), (PySem.Str.ofString "place", .local)], isGenerator := false, isCoroutine := false, more := [] }
/-- what the written part says of Fault, at C, and of its __init__, at fI -/
structure FaultTxt (K : Frag) (mg : Str → Option Value) (C fI : Addr) : Prop where
  gC : mg "Fault" = some (.ref C)
  cls : ∃ nm q N bs sn sub ab col dd k0 k1 k2 k3 k5, K.lookup C = some (excClassObj nm q C N bs ESX.exTail true sn sub ab col dd k0 k1 k2 k3 k5 "Exception.__new__")
  sa : findIn K (.ref C) "__setattr__" = some (some (.builtin "object.__setattr__"))
  xf : L2.XfC K C
  noK : findIn K (.ref C) "kind" = some none
  noP : findIn K (.ref C) "place" = some none
  iC : findIn K (.ref C) "__init__" = some (some (.ref fI))
  tC : typeIn K (.ref fI) = some (.type "function")
  kC : keepIn K (.ref C) = true
  exC : subIn K (.ref C) (.type "BaseException") = some true
  tyC : typeIn K (.ref C) = some (.type "type")
  te : exmOne K (.ref C) (.ref C) = some true
  fn : ∃ (oc : Value) (od : Option Addr) (doc pm : Value) (an : Option Addr) (cdv ct : Value) (osl : Array (Option Value)) (p1 p2 p3 q1 q2 q3 q4 q5 q6 q7 q8 : Pos),
    K.lookup fI = some ⟨oc, od, .func (fnOf "__init__" "Fault.__init__" (iA p1 p2 p3) (iB q1 q2 q3 q4 q5 q6 q7 q8) iS .none .none doc pm an cdv ct), osl⟩ ∧ codeIn K cdv "Fault.__init__" = true
theorem two_size (v v2 : Value) : [v, v2].length ≤ sizeLine := by
  rw [sizeLine_eq]
  exact (by decide : 2 ≤ 16777216)
theorem kept_but {K : Frag} {h h' : Heap} {x : Addr} (X : K.In h) (hx : K.lookup x = none) (k : ∀ b o, b ≠ x → h.get? b = some o → h'.get? b = some o) : K.In h' := fun a o e =>
  k a o (fun z => by rw [z, hx] at e; cases e) (X a o e)
theorem ldC {M : Model} {s : Shared} {name : Str} {scope : Scope} {L a : Addr} {cd : Value} {m : Str → Option Value} {x : Str} {pos : Pos} {v : Value} {Q : Value → Shared → Prop} {A : Around} {E : Value → Shared → Prop} (hn : s.heap.Ns L m) (hv : m x = some v) (h : Q v s)
    (hk : scope.kind = .function := by rfl) (hl : (envOfC name scope L a cd).kindOf x = some .local := by rfl) (hd : (x == ("__debug__" : Str)) = false := by decide) :
    wpAny M A (eval (.Name x pos) (envOfC name scope L a cd)) Q E s := wpAny_Name (wpAny_loadName_local hk hl hn hv h) hd
def two (v v2 : Value) : Str → Option Value := fun y => if y = "place" then some v2 else if y = "kind" then some v else none
/-- what __init__ leaves of a fresh exception at x -/
structure InitEnd (h h' : Heap) (x C dx t1 : Addr) (v v2 : Value) : Prop where
  keep : ∀ b o, b ≠ x → h.get? b = some o → h'.get? b = some o
  obj : h'.get? x = some { cls := .ref C, dict := some dx, data := .fields #[.ref t1, .none, .none, .none, .bool false, .none] }
  dbig : h.objs.size ≤ dx
  dne : dx ≠ x
  ns : h'.Ns1 dx (two v v2)
/-- a made Fault -/
structure OwnMade (h h' : Heap) (e C d : Addr) (v v2 : Value) : Prop where
  keep : ∀ b o, h.get? b = some o → h'.get? b = some o
  new : h.objs.size ≤ e
  obj : ∃ oe vs, h'.get? e = some oe ∧ oe.cls = .ref C ∧ oe.dict = some d ∧ oe.data = .fields vs ∧ vs[1]? = some .none ∧ vs[2]? = some .none
  dbig : h.objs.size ≤ d
  dne : d ≠ e
  ns : h'.Ns1 d (two v v2)
section
variable {prog : Program} {w : World} {A : Around} {E : Value → Shared → Prop} {R : Result → Shared → Prop} {s : Shared} {K : Frag} {mg : Str → Option Value} {C fI : Addr}
theorem fault_init (T : FaultTxt K mg C fI) {x t0 : Addr} {v v2 : Value} (X : K.In s.heap) (hlim : s.heap.NoLimit) (hx : s.heap.get? x = some (excO C t0)) (hnx : K.lookup x = none) (hroom : A.depth < recursionLimit)
    (hq : ∀ h' tk dx, InitEnd s.heap h' x C dx t0 v v2 → R (.ok (.ret .none)) { s with heap := h', toks := tk }) :
    codeAny (model prog w) A (.call (.ref fI) ⟨[.ref x, v, v2], []⟩) R s := by
  obtain ⟨oc, od, doc, pm, an, cdv, ct, osl, p1, p2, p3, q1, q2, q3, q4, q5, q6, q7, q8, ho, hcd⟩ := T.fn
  obtain ⟨nm, q, N, bs, sn, sub, ab, col, dd, k0, k1, k2, k3, k5, hC⟩ := T.cls
  have hcl : clsIn K C = some { name := nm, bases := bs, mro := .ref C :: ESX.exTail, ns := N, qualname := q, hasDict := true, slotNames := sn, subclasses := sub, abstract := ab, collection := col, hasDel := false } := by unfold clsIn; rw [hC] <;> rfl
  refine Att.call_fn (binds := [("self", .ref x), ("kind", v), ("place", v2)]) X hlim ho hcd hroom (BindsTo.of_eq (by first | rfl | with_unfolding_all rfl)) (by first | rfl | decide | with_unfolding_all rfl) (fun s₁ IC => ?_) rfl rfl rfl
  obtain ⟨h₁, tk₁, rfl⟩ := IC.toInCall.same
  have k : ∀ b o, s.heap.get? b = some o → h₁.get? b = some o := IC.toInCall.keep
  have hn := IC.toInCall.ns
  have hxL : s.heap.objs.size ≠ x := Nat.ne_of_gt (Heap.lt_size hx)
  have X₁ : K.In h₁ := X.keeps k
  have hx₁ := k _ _ hx
  -- self.kind = kind
  show wpAny _ _ (execs _ _) _ _ _
  refine wpAny_execs_cons (plainObj_wpAny_Assign_Attribute ?_)
  refine ldC (v := v) hn (by first | rfl | with_unfolding_all rfl | kernel_rfl) (ldC (v := .ref x) hn (by first | rfl | with_unfolding_all rfl | kernel_rfl) ?_)
  refine set_plain X₁ (ox := excO C t0) (od := none) ⟨hx₁, rfl, rfl, trivial⟩ T.sa ?_
  refine ESX.osa_new X₁ hx₁ hcl rfl rfl T.noK (fun h₃ tk₃ dx k₃ dn dne hx₃ hn₃ => ?_)
  have z : s.heap.objs.size < h₁.objs.size := hn.lt
  have hnL : h₃.Ns s.heap.objs.size _ := hn.at (fun o e => k₃ _ o hxL e)
  have X₃ : K.In h₃ := kept_but X₁ hnx k₃
  obtain ⟨oD, _, _, hoD, _, _⟩ := hn₃.count (Within.cons "kind" v Within.nil)
  -- self.place = place
  show wpAny _ _ (execs _ _) _ _ _
  refine wpAny_execs_cons (plainObj_wpAny_Assign_Attribute ?_)
  refine ldC (v := v2) hnL (by first | rfl | with_unfolding_all rfl | kernel_rfl) (ldC (v := .ref x) hnL (by first | rfl | with_unfolding_all rfl | kernel_rfl) ?_)
  refine set_plain X₃ (ox := { cls := .ref C, dict := some dx, data := .fields #[.ref t0, .none, .none, .none, .bool false, .none] }) (od := some oD) ⟨hx₃, rfl, rfl, hoD⟩ T.sa ?_
  refine ESX.osa_old X₃ hx₃ hn₃ (Within.cons "kind" v Within.nil) (by decide) hcl rfl rfl T.noP (fun h₄ tk₄ k₄ hn₄ => ?_)
  show wpAny _ _ (execs _ _) _ _ _
  have dold : ∀ b o, s.heap.get? b = some o → b ≠ dx := fun b o e => Nat.ne_of_lt (Nat.lt_of_lt_of_le (Nat.lt_trans (Heap.lt_size e) z) dn)
  exact wpAny_execs_nil (hq h₄ tk₄ dx ⟨fun b o hb e => k₄ b o (dold b o e) (k₃ b o hb (k b o e)), k₄ _ _ (Ne.symm dne) hx₃, Nat.le_of_lt (Nat.lt_of_lt_of_le z dn), dne, hn₄⟩)
theorem fault_made (T : FaultTxt K mg C fI) {v v2 : Value} (X : K.In s.heap) (hlim : s.heap.NoLimit) (hroom : A.depth + 1 < recursionLimit)
    (hq : ∀ h' tk e d, OwnMade s.heap h' e C d v v2 → R (.ok (.ret (.ref e))) { s with heap := h', toks := tk }) :
    codeAny (model prog w) A (.call (.ref C) ⟨[v, v2], []⟩) R s := by
  obtain ⟨nm, q, N, bs, sn, sub, ab, col, dd, k0, k1, k2, k3, k5, hC⟩ := T.cls
  obtain ⟨hp, g, dr, tk, os⟩ := s
  have k : ∀ b o, hp.get? b = some o → ((hp.push (kdv_tup [v, v2])).push (excO C hp.objs.size)).get? b = some o := fun b o e => Heap.get?_push_of_some _ (Heap.get?_push_of_some _ e)
  have hget : ((hp.push (kdv_tup [v, v2])).push (excO C hp.objs.size)).get? (hp.objs.size + 1) = some (excO C hp.objs.size) := by heap_get
  have hnx : K.lookup (hp.objs.size + 1) = none := by
    cases e : K.lookup (hp.objs.size + 1) with
    | none => rfl
    | some o =>
      have z : hp.get? (hp.objs.size + 1) = some o := X _ _ e
      exact absurd (Nat.lt_of_succ_lt (Heap.lt_size z)) (Nat.lt_irrefl _)
  refine call_own F.excBase_Exception (fun X => rfl) (X _ _ hC) (looks_findIn X T.iC) (fun self => bind_fn X self T.tC) (two_size v v2) ?_
  refine fault_init (s := ⟨(hp.push (kdv_tup [v, v2])).push (excO C hp.objs.size), g, dr, tk, os⟩) T (X.keeps k) (hlim.keeps k) hget hnx ?_ fun h' tk' dx ⟨k', hx, dn, dne, hns⟩ => ?_
  · show A.depth + 1 < recursionLimit
    exact hroom
  · have old : ∀ b o, hp.get? b = some o → h'.get? b = some o := fun b o e => k' b o (Nat.ne_of_lt (Nat.lt_succ_of_lt (Heap.lt_size e))) (k b o e)
    have z : hp.objs.size + 1 + 1 ≤ dx := by
      first
        | (simpa only [Heap.size_push] using dn)
        | exact dn
        | (have q := dn; rw [Heap.size_push, Heap.size_push] at q; exact q)
    exact ⟨rfl, hq h' tk' (hp.objs.size + 1) dx ⟨old, Nat.le_succ _, ⟨_, _, hx, rfl, rfl, rfl, rfl, rfl⟩, Nat.le_trans (Nat.le_trans (Nat.le_succ _) (Nat.le_succ _)) z, dne, hns⟩⟩
end
end FaultX
end PySem
namespace L2
open PySem PySem.Spec PyProof.Rows
/-- the fields of a Fault -/
def faultF (v v2 : V) : List (Str × V) := [(("kind" : Str), v), (("place" : Str), v2)]
theorem faultF_kind (v v2 : V) : (faultF v v2).lookup ("kind" : Str) = some v := by simp [faultF, List.lookup]
theorem faultF_place (v v2 : V) : (faultF v v2).lookup ("place" : Str) = some v2 := by
  have e : (("place" : Str) == ("kind" : Str)) = false := by decide +kernel
  simp [faultF, List.lookup, e]
theorem relO_fault {v v2 : V} {u u2 : Value} (r : RelV v u) (r2 : RelV v2 u2) (f : Str) : RelO (List.lookup f (faultF v v2)) (PySem.FaultX.two u u2 f) := by
  unfold PySem.FaultX.two
  by_cases hp : f = "place"
  · subst hp
    rw [if_pos rfl, faultF_place]
    exact r2
  · rw [if_neg hp]
    by_cases hk : f = "kind"
    · subst hk
      rw [if_pos rfl, faultF_kind]
      exact r
    · rw [if_neg hk]
      have q1 : (f == ("place" : Str)) = false := by simpa using hp
      have q2 : (f == ("kind" : Str)) = false := by simpa using hk
      have q3 : List.lookup f (faultF v v2) = none := by simp [faultF, List.lookup, q1, q2]
      rw [q3]
      trivial
section
variable {X : Cx} {C fI : Addr}
/-- Fault(a, b) -/
def tMkFault (C : Addr) (ta : TA) : St → Hp → XK → Prop := fun σ H Q => ta σ H fun vs H1 => ∃ v v2, vs = [v, v2] ∧ ∀ d, H1 d = none → Q (.ref C) (some d) (upd H1 d (.xd (faultF v v2)))
theorem pmk_fault {a b : Expr} {ta : TA} {p pos : Pos} {k : Nat} (T : PySem.FaultX.FaultTxt X.K X.mg C fI) (hr : Room k X.A) (ha : PA X [a, b] ta) (hg : Gl X "Fault" := by rfl)
    (he : starEach [a, b] X.env = (false, eval a X.env) :: starEach [b] X.env := by rfl) (hpl : (backTo pos (starEach [b] X.env)).any (·.1) = false := by rfl) :
    L2N.PMk X (.Call (.Name "Fault" p) [a, b] [] pos) (tMkFault C ta) := by
  intro pins s σ H Q I h
  refine wpAny_Call_Name_kw (ld_glob I hg T.gC ?_)
  refine PySem.W.callWith_K (h₀ := X.base) I.ok.mod.kin T.kC (thn (ha.run pos pins s σ H _ I h) fun us s1 hh => ?_) he hpl
  obtain ⟨vs, H1, I1, r1, v, v2, ev, q1⟩ := hh
  subst ev
  refine ⟨I1.kIn, ?_⟩
  cases r1 with
  | cons rv rn =>
    rename_i v' us'
    cases rn with
    | cons rv2 rn2 =>
      rename_i v2' us2
      cases rn2
      show wpAny _ _ (call (.ref C) [v', v2']) _ _ _
      have hlim := I1.nolimit
      obtain ⟨hp, g, dr, tk, os⟩ := s1
      refine wpAny_call (PySem.FaultX.fault_made T I1.kIn hlim (by have := hr.dp; omega) fun h' tk' e d M => ?_)
      show L2N.MkP X pins σ Q (.ref e) ⟨h', g, dr, tk', os⟩
      obtain ⟨oe, fv, hoe, hc, hd, hdat, h1, h2⟩ := M.obj
      have hns := M.ns
      obtain ⟨G', g1, g2⟩ := restrict h' fun b => decide (b ≠ e)
      have gk : ∀ b, b ≠ e → G'.get? b = h'.get? b := fun b hb => g1 b (decide_eq_true hb)
      have ge : G'.get? e = none := g2 e (by simp)
      have old : ∀ b o, hp.get? b = some o → G'.get? b = some o := fun b o q => (gk b (Nat.ne_of_lt (Nat.lt_of_lt_of_le (Heap.lt_size q) M.new))).trans (M.keep b o q)
      have ob : ObjOk X.prog X.w (upd H1 d (.xd (faultF v v2))) G' d (.xd (faultF v v2)) :=
        ⟨_, hns.at (fun o q => (gk d M.dne).trans q), fun f => relO_fault rv rv2 f⟩
      have J : Inv X pins σ (upd H1 d (.xd (faultF v v2))) ⟨G', g, dr, tk', os⟩ := I1.laid (t' := tk') old M.dbig ob
      refine ⟨e, oe, fv, ⟨G', g, dr, tk', os⟩, _, .ref C, some d, rfl, J, fun b o q => ?_, ge, hoe, ⟨hc, hd, fun vs q => by rw [hdat] at q; cases q; exact h2⟩, hdat, h1, ?_, rfl, I1.bare, raises_own T.exC T.tyC, q1 d (I1.hok.fresh M.dbig)⟩
      · by_cases hb : b = e
        · have q' : G'.get? b = some o := q
          rw [hb, ge] at q'; cases q'
        · exact (gk b hb).symm.trans q
      · rw [upd_ne (Ne.symm M.dne)]
        exact I1.hok.fresh M.new
/-- raise Fault(a, b) -/
def tRaiseFault (C : Addr) (W : WX) (ta : TA) : TS := fun _ σ H => tMkFault C ta σ H fun cls d H' => W cls d σ H'
theorem ps_raiseFault {a b : Expr} {ta : TA} {W : WX} {p pos pos2 : Pos} {k : Nat} (hc : X.calm = true) (T : PySem.FaultX.FaultTxt X.K X.mg C fI) (hr : Room k X.A) (tk : L2N.Takes X W) (ha : PA X [a, b] ta) (hg : Gl X "Fault" := by rfl)
    (he : starEach [a, b] X.env = (false, eval a X.env) :: starEach [b] X.env := by rfl) (hpl : (backTo pos (starEach [b] X.env)).any (·.1) = false := by rfl) :
    PS X (.Raise (some (.Call (.Name "Fault" p) [a, b] [] pos)) none pos2) (tRaiseFault C W ta) := L2N.ps_raise hc tk (pmk_fault T hr ha hg he hpl)
end
/-! ### what is known of an exception's context may be forgotten -/
theorem cxN {P : Program} {w : World} {outer : List Env} {H : Hp} {s s' : Shared} {E : XK} {u : Value} (h : L2N.CX P w outer H s E u s') : L2.CX P w outer H s E u s' := by
  obtain ⟨a, B, H', cls, d, e, fl, r⟩ := h
  exact ⟨a, B, H', cls, d, e, L2H.flyingZ_imp (fun o z => z.zc) fl, r⟩
theorem FnOk.ofN {P : Program} {w : World} {K : PySem.W.Frag} {mg : Str → Option Value} {base : Heap} {k : Nat} {f : Addr} {fd : FuncData} {ps : List Str} {sp : Sp} (F : FnOk P w K mg base (L2N.CX P w) k f fd ps sp) : FnOk P w K mg base (L2.CX P w) k f fd ps sp :=
  ⟨F.len, fun A outer s H args us vs Q E hr he hb hv hs => codeAny_mono (F.run A outer s H args us vs Q E hr he hb hv hs) fun r s' h => by
    cases r with
    | ok fl => cases fl <;> exact h
    | error e => exact cxN h⟩
theorem pmkN {X : Cx} {e : Expr} {t : St → Hp → XK → Prop} (h : L2N.PMk X e t) : PMk X e t := fun pins s σ H Q I q => thn (h pins s σ H Q I q) fun _ _ x => by
  obtain ⟨a, oe, vs, sI, H', cls, d, e1, J, k, hn, ha, hz, r⟩ := x
  exact ⟨a, oe, vs, sI, H', cls, d, e1, J, k, hn, ha, hz.zc, r⟩
/-- as Fun.okX: the context of what is raised is None -/
theorem Fun.okN {P : Program} {w : World} {K : PySem.W.Frag} {mg : Str → Option Value} {base : Heap} {x qual : Str} {st : Stmt} {f : Addr} {fd : FuncData} {N ps : List Str} {k : Nat} {sp : Sp} (F : Fun K x qual st f fd) (S : FnScope N ps (defScope st)) (len : ∀ vs H Q E, sp vs H Q E → vs.length = ps.length)
    (hbody : ∀ (cdv : Value) (A : Around) (outer : List Env) (s : Shared) (H : Hp) (vs : List V) (Q : VK) (E : XK), Room k (A.deeper (envOfC qual (defScope st) s.heap.objs.size f cdv)) → sp vs H Q E →
      ∃ t, PSs (cxOf (L2N.CX P w) P w K mg base N qual (defScope st) f cdv A outer s H E) (defBody st) t ∧ t { nx := fun _ H' => Q .non H', rt := Q } (start N vs) H) : FnOk P w K mg base (L2N.CX P w) (k + 1) f fd ps sp := by
  obtain ⟨oc, od, kV, doc, pm, an, cdv, ct, osl, rfl, lk, hcd⟩ := F.ex
  exact fn_of lk hcd S len fun A outer s H vs Q E hr hsp => hbody cdv A outer s H vs Q E hr hsp
end L2
end

section
namespace Pat
/-! where each def and class of the program stands in its text -/
abbrev i__wall : Nat := 0
abbrev i_Fault : Nat := 9
abbrev i_only : Nat := 11
abbrev i_lowest_place : Nat := 12
abbrev i_highest_place : Nat := 13
abbrev i_without : Nat := 14
abbrev i_leading_to : Nat := 15
abbrev i_every_value : Nat := 19
abbrev i_just_one : Nat := 20
abbrev i_is_just_one : Nat := 21
abbrev i_all_but : Nat := 22
abbrev i_listed_ranges : Nat := 23
abbrev i_OneValue : Nat := 25
abbrev i_Standpoint : Nat := 26
abbrev i_Row : Nat := 27
abbrev i_Choice : Nat := 28
abbrev i_Repetition : Nat := 29
abbrev i_Capture : Nat := 30
abbrev i_row_of : Nat := 31
abbrev i_choice_of : Nat := 32
abbrev i_following_bytes : Nat := 37
abbrev i_scalar_at : Nat := 38
abbrev i_escape_ranges : Nat := 56
abbrev i_names_in : Nat := 57
abbrev i_Pattern : Nat := 58
abbrev i_Bracket : Nat := 59
abbrev i_Reader : Nat := 60
abbrev i_read_pattern : Nat := 61
abbrev i_judge : Nat := 66
end Pat
end

section
open PatUtf PatWords
namespace Mach
/-! A reader that goes from the front with a pile of open brackets: it answers as `PatWords.read`. -/

def seqs : List Pat → Pat
  | [] => .nothing
  | a :: l => .seq a (seqs l)
def alts : List Pat → Pat
  | [] => .nothing
  | [a] => a
  | a :: b :: l => .alt a (alts (b :: l))

/-- An open bracket, or the outside: what closes it, its name, its whole rows, the items of the row begun, whether a sign of repetition may come. -/
structure Fr where
  close : List UInt8
  name : Option Name
  rows : List Pat
  items : List Pat
  last : Bool
structure St where
  p : Nat
  b : Bytes
  ns : List (Nat × Name)
  frs : List Fr

def Fr.pat (fr : Fr) : Pat := alts (fr.rows ++ [seqs fr.items])
def Fr.atom (fr : Fr) : Pat := match fr.name with
  | none => fr.pat
  | some n => .cap n fr.pat
def fresh (close : List UInt8) (name : Option Name) : Fr := ⟨close, name, [], [], false⟩
def Fr.push (fr : Fr) (a : Pat) : Fr := { fr with items := fr.items ++ [a], last := true }
def Fr.bar (fr : Fr) : Fr := { fr with rows := fr.rows ++ [seqs fr.items], items := [], last := false }
def Fr.swap (fr : Fr) (a : Pat) : Fr := { fr with items := fr.items.dropLast ++ [a], last := false }
def isRep (c : UInt8) : Bool := c == 42 || c == 43 || c == 63 || c == 123
/-- A name behind its `<`. -/
def nameP (ns : List (Nat × Name)) (p : Nat) (r : Bytes) : Except Fault (Name × Bytes × Nat) := match r with
  | [] => .error ⟨1, p⟩
  | d :: _ => if isSmall d = false then .error ⟨2, p⟩ else
    let n := r.takeWhile inName
    if n.length = r.length then .error ⟨1, p + n.length⟩ else if NAMELEN < n.length ∨ (ns.any fun (y : Nat × Name) => y.2 == n) = true ∨ NAMES ≤ ns.length then .error ⟨4, p⟩ else match r.drop n.length with
      | [] => .error ⟨1, p + n.length⟩
      | e :: s => if e ≠ 32 then .error ⟨2, p + n.length⟩ else .ok (n, s, p + 1 + n.length)
/-- One step: the next sign, single atom or repetition. -/
def stepC (p : Nat) (ns : List (Nat × Name)) (fr : Fr) (frs : List Fr) (c : UInt8) (r : Bytes) : Except Fault St :=
  if c = 124 then .ok ⟨p + 1, r, ns, fr.bar :: frs⟩
  else if c = 40 then (if OPENED ≤ frs.length then .error ⟨5, p⟩ else .ok ⟨p + 1, r, ns, fresh [41] none :: fr :: frs⟩)
  else if c = 60 then (if OPENED ≤ frs.length then .error ⟨5, p⟩ else match nameP ns (p + 1) r with
    | .error e => .error e
    | .ok (n, s, q) => .ok ⟨q, s, ns ++ [(p + 1, n)], fresh [62] (some n) :: fr :: frs⟩)
  else if c = 41 ∨ c = 62 then (if fr.close = [c] then (match frs with
      | [] => .error ⟨2, p⟩
      | g :: gs => .ok ⟨p + 1, r, ns, g.push fr.atom :: gs⟩) else .error ⟨2, p⟩)
  else if isRep c = true then (if fr.last = true then (match repP (fr.items.getLast?.getD .nothing) p (c :: r) with
      | .error e => .error e
      | .ok (a, s, q) => .ok ⟨q, s, ns, fr.swap a :: frs⟩) else .error ⟨2, p⟩)
  else match atomP 1 0 [] p (c :: r) with
    | .error e => .error e
    | .ok (a, _, s, q) => .ok ⟨q, s, ns, fr.push a :: frs⟩
def finish (st : St) : Except Fault (Pat × List (Nat × Name)) := match st.frs with
  | [fr] => if ATOMS < fr.pat.size then .error ⟨7, 0⟩ else .ok (fr.pat, st.ns)
  | _ => .error ⟨1, st.p⟩
def run : Nat → St → Except Fault (Pat × List (Nat × Name))
  | 0, st => .error ⟨1, st.p⟩
  | f + 1, st => match st.b, st.frs with
    | [], _ => finish st
    | _, [] => .error ⟨1, st.p⟩
    | c :: r, fr :: frs => match stepC st.p st.ns fr frs c r with
      | .error e => .error e
      | .ok st' => run f st'

/-! ## Each reader leaves fewer bytes -/
theorem follow_len : ∀ (k lo hi x p : Nat) (b : Bytes) (z : Nat × Bytes), follow k lo hi x p b = .ok z → z.2.length ≤ b.length
  | 0, _, _, _, _, b, z, h => by
    simp only [follow] at h; cases h; exact Nat.le_refl _
  | k + 1, lo, hi, x, p, [], z, h => by simp only [follow] at h; cases h
  | k + 1, lo, hi, x, p, c :: b, z, h => by
    simp only [follow] at h
    split at h
    · exact Nat.le_trans (follow_len k _ _ _ _ b z h) (Nat.le_succ _)
    · cases h
theorem scalarAt_len {p : Nat} {b : Bytes} {z : Nat × Bytes} (h : scalarAt p b = .ok z) : z.2.length < b.length := by
  cases b with
  | nil => cases h
  | cons c b =>
    simp only [scalarAt] at h
    cases e : leads c.toNat with
    | none => rw [e] at h; cases h
    | some k => rw [e] at h; exact Nat.lt_succ_of_le (follow_len _ _ _ _ _ _ _ h)
theorem valueP_len {p : Nat} {b : Bytes} {z : Nat × Bytes × Nat} (h : valueP p b = .ok z) : z.2.1.length < b.length := by
  unfold valueP at h
  cases e : scalarAt p b with
  | error q => rw [e] at h; cases h
  | ok y => rw [e] at h; cases h; exact scalarAt_len e
theorem oneP_len {p : Nat} {b : Bytes} {z} (h : oneP p b = .ok z) : z.2.1.length < b.length := by
  unfold oneP at h
  cases b with
  | nil => cases h
  | cons c r =>
    simp only at h
    split at h
    · cases r with
      | nil => cases h
      | cons d s =>
        simp only at h
        split at h
        · cases h; simp; omega
        · split at h
          · cases h; simp; omega
          · cases h
    · split at h
      · cases h
      · cases e : valueP p (c :: r) with
        | error q => rw [e] at h; cases h
        | ok y => rw [e] at h; cases h; exact valueP_len e
theorem timesP_len {p : Nat} {b : Bytes} {z} (h : timesP p b = .ok z) : z.2.1.length < b.length := by
  unfold timesP at h
  cases b with
  | nil => cases h
  | cons c r =>
    simp only at h
    split at h
    · cases h
    · split at h
      · cases r with
        | nil => cases h
        | cons d s => cases h; simp
      · split at h
        · cases h
        · split at h
          · cases h
          · rename_i hd _ _ _
            cases h
            have hd' : isDigit c = true := by cases q : isDigit c with
              | true => rfl
              | false => exact absurd q hd
            simp only [List.takeWhile_cons, hd', if_true, List.length_cons, List.drop_succ_cons, List.length_drop]
            omega
theorem repP_len {a : Pat} {p : Nat} {b : Bytes} {z} (h : repP a p b = .ok z) : z.2.1.length ≤ b.length := by
  unfold repP at h
  cases b with
  | nil => cases h; simp
  | cons c r =>
    simp only at h
    split at h; · cases h; simp
    split at h; · cases h; simp
    split at h; · cases h; simp
    split at h
    · cases e : timesP (p + 1) r with
      | error q => rw [e] at h; cases h
      | ok y =>
        have l := timesP_len e
        rw [e] at h
        simp only [bind, Except.bind] at h
        obtain ⟨m, s, q⟩ := y
        simp only at h l
        cases s with
        | nil => cases h
        | cons d u =>
          simp only [List.length_cons] at h l
          split at h; · cases h; simp; omega
          split at h; · cases h
          cases u with
          | nil => cases h
          | cons e2 v =>
            simp only [List.length_cons] at h l
            split at h; · cases h; simp; omega
            cases e3 : timesP (q + 1) (e2 :: v) with
            | error q => rw [e3] at h; cases h
            | ok y2 =>
              have l2 := timesP_len e3
              rw [e3] at h
              obtain ⟨n, x, k⟩ := y2
              simp only [List.length_cons] at h l2
              split at h; · cases h
              cases x with
              | nil => cases h
              | cons y z =>
                simp only [List.length_cons] at h l2
                split at h
                · cases h; simp; omega
                · cases h
    · cases h; simp
end Mach
end

section
open PatUtf PatWords
namespace Mach
theorem partsP_len : ∀ (f : Nat) (s : Bool) (acc : List (Nat × Nat)) (p : Nat) (b : Bytes) (z), partsP f s acc p b = .ok z → z.2.1.length < b.length
  | 0, _, _, _, _, _, h => by simp only [partsP] at h; cases h
  | f + 1, s, acc, p, [], z, h => by simp only [partsP] at h; cases h
  | f + 1, s, acc, p, c :: r, z, h => by
    rw [partsP] at h
    simp only at h
    split at h
    · split at h
      · cases h; simp
      · cases h
    · cases e : oneP p (c :: r) with
      | error q => rw [e] at h; cases h
      | ok y =>
        have l := oneP_len e
        obtain ⟨x, u, q⟩ := y
        rw [e] at h
        simp only [bind, Except.bind] at h
        simp only at l
        cases x with
        | inr v => exact Nat.lt_trans (partsP_len f _ _ _ _ _ h) l
        | inl lo =>
          cases u with
          | nil => cases h
          | cons d u =>
            simp only at h
            split at h
            · cases e2 : oneP (q + 1) u with
              | error q => rw [e2] at h; cases h
              | ok y2 =>
                have l2 := oneP_len e2
                obtain ⟨y, v, k⟩ := y2
                rw [e2] at h
                simp only at h l2
                cases y with
                | inr w => cases h
                | inl hi =>
                  simp only at h
                  split at h
                  · cases h
                  · have l3 := partsP_len f _ _ _ _ _ h
                    simp only [List.length_cons] at l ⊢
                    omega
            · have l3 := partsP_len f _ _ _ _ _ h
              exact Nat.lt_trans l3 l
theorem nameP_len {ns : List (Nat × Name)} {p : Nat} {b : Bytes} {z} (h : nameP ns p b = .ok z) : z.2.1.length < b.length := by
  unfold nameP at h
  cases b with
  | nil => cases h
  | cons d r =>
    simp only at h
    split at h; · cases h
    split at h; · cases h
    split at h; · cases h
    split at h
    · cases h
    · rename_i e s q
      split at h
      · cases h
      · cases h
        simp only
        have := congrArg List.length q
        simp only [List.length_drop, List.length_cons] at this ⊢
        omega
/-- Of an atom that is no bracket nothing hangs on the names, on what is open, on the fuel. -/
theorem atom_single {f o : Nat} {ns : List (Nat × Name)} {p : Nat} {c : UInt8} {r : Bytes} (h1 : c ≠ 40) (h2 : c ≠ 60) :
    atomP (f + 1) o ns p (c :: r) = match atomP 1 0 [] p (c :: r) with
      | .error e => .error e
      | .ok (a, _, s, q) => .ok (a, ns, s, q) := by
  rw [atomP.eq_def (f + 1), atomP.eq_def 1]
  simp only [h1, h2, if_false]
  split; · rfl
  split; · rfl
  split; · rfl
  split
  · cases r with
    | nil => rfl
    | cons d s =>
      simp only
      split; · rfl
      split; · rfl
      split <;> rfl
  split
  · cases r with
    | nil => rfl
    | cons d s =>
      simp only
      split
      · cases partsP ((c :: d :: s).length + 1) false [] (p + 2) s <;> rfl
      · cases partsP ((c :: d :: s).length + 1) false [] (p + 1) (d :: s) <;> rfl
  split
  · rfl
  · cases valueP p (c :: r) <;> rfl
theorem atom1_len {p : Nat} {c : UInt8} {r : Bytes} {z} (h1 : c ≠ 40) (h2 : c ≠ 60) (h : atomP 1 0 [] p (c :: r) = .ok z) : z.2.2.1.length < (c :: r).length := by
  rw [atomP.eq_def 1] at h
  simp only [h1, h2, if_false] at h
  split at h; · cases h; simp
  split at h; · cases h; simp
  split at h; · cases h; simp
  split at h
  · cases r with
    | nil => cases h
    | cons d s =>
      simp only at h
      split at h; · cases h; simp; omega
      split at h; · cases h; simp; omega
      split at h
      · cases h; simp; omega
      · cases h
  split at h
  · cases r with
    | nil => cases h
    | cons d s =>
      simp only at h
      split at h
      · cases e : partsP ((c :: d :: s).length + 1) false [] (p + 2) s with
        | error q => rw [e] at h; cases h
        | ok y =>
          have := partsP_len _ _ _ _ _ _ e
          obtain ⟨y1, y2, y3⟩ := y
          rw [e] at h
          cases h
          simp only [List.length_cons] at this ⊢
          omega
      · cases e : partsP ((c :: d :: s).length + 1) false [] (p + 1) (d :: s) with
        | error q => rw [e] at h; cases h
        | ok y =>
          have := partsP_len _ _ _ _ _ _ e
          obtain ⟨y1, y2, y3⟩ := y
          rw [e] at h
          cases h
          simp only [List.length_cons] at this ⊢
          omega
  split at h
  · cases h
  · cases e : valueP p (c :: r) with
    | error q => rw [e] at h; cases h
    | ok y =>
      have := valueP_len e
      rw [e] at h
      cases h
      exact this
theorem repP_lt {a : Pat} {p : Nat} {c : UInt8} {r : Bytes} {z} (hc : isRep c = true) (h : repP a p (c :: r) = .ok z) : z.2.1.length < (c :: r).length := by
  have hl := repP_len h
  unfold repP at h
  simp only at h
  split at h; · cases h; simp
  split at h; · cases h; simp
  split at h; · cases h; simp
  split at h
  · cases e : timesP (p + 1) r with
    | error q => rw [e] at h; cases h
    | ok y =>
      have l := timesP_len e
      rw [e] at h
      simp only [bind, Except.bind] at h
      obtain ⟨m, s, q⟩ := y
      simp only at h l
      cases s with
      | nil => cases h
      | cons d u =>
        simp only [List.length_cons] at h l
        split at h; · cases h; simp; omega
        split at h; · cases h
        cases u with
        | nil => cases h
        | cons e2 v =>
          simp only [List.length_cons] at h l
          split at h; · cases h; simp; omega
          cases e3 : timesP (q + 1) (e2 :: v) with
          | error q => rw [e3] at h; cases h
          | ok y2 =>
            have l2 := timesP_len e3
            rw [e3] at h
            obtain ⟨n, x, k⟩ := y2
            simp only [List.length_cons] at h l2
            split at h; · cases h
            cases x with
            | nil => cases h
            | cons y z =>
              simp only [List.length_cons] at h l2
              split at h
              · cases h; simp; omega
              · cases h
  · rename_i n1 n2 n3 n4
    simp [isRep, n1, n2, n3, n4] at hc
theorem stepC_len {p : Nat} {ns : List (Nat × Name)} {fr : Fr} {frs : List Fr} {c : UInt8} {r : Bytes} {st : St} (h : stepC p ns fr frs c r = .ok st) : st.b.length < (c :: r).length := by
  unfold stepC at h
  split at h; · cases h; simp
  split at h
  · split at h
    · cases h
    · cases h; simp
  split at h
  · split at h
    · cases h
    · cases e : nameP ns (p + 1) r with
      | error q => rw [e] at h; cases h
      | ok y =>
        have := nameP_len e
        obtain ⟨n, s, q⟩ := y
        rw [e] at h
        cases h
        simp only [List.length_cons] at this ⊢
        omega
  split at h
  · split at h
    · cases frs with
      | nil => cases h
      | cons g gs => cases h; simp
    · cases h
  split at h
  · rename_i hc
    split at h
    · cases e : repP (fr.items.getLast?.getD .nothing) p (c :: r) with
      | error q => rw [e] at h; cases h
      | ok y =>
        have := repP_lt hc e
        rw [e] at h
        cases h
        exact this
    · cases h
  · rename_i h40 h60 _ _
    cases e : atomP 1 0 [] p (c :: r) with
    | error q => rw [e] at h; cases h
    | ok y =>
      have := atom1_len h40 h60 e
      rw [e] at h
      cases h
      exact this
/-- More fuel than bytes: how much is no matter. -/
theorem run_fuel : ∀ (f g : Nat) (st : St), st.b.length < f → st.b.length < g → run f st = run g st
  | 0, _, _, h, _ => absurd h (Nat.not_lt_zero _)
  | _ + 1, 0, _, _, h => absurd h (Nat.not_lt_zero _)
  | f + 1, g + 1, ⟨p, b, ns, frs⟩, hf, hg => by
    rw [run, run]
    cases b with
    | nil => rfl
    | cons c r =>
      cases frs with
      | nil => rfl
      | cons fr frs =>
        simp only
        cases e : stepC p ns fr frs c r with
        | error e => rfl
        | ok st =>
          have l := stepC_len e
          simp only [List.length_cons] at l hf hg
          exact run_fuel f g st (by omega) (by omega)
def go (st : St) : Except Fault (Pat × List (Nat × Name)) := run (st.b.length + 1) st
theorem go_nil {p : Nat} {ns : List (Nat × Name)} {frs : List Fr} : go ⟨p, [], ns, frs⟩ = finish ⟨p, [], ns, frs⟩ := rfl
theorem go_cons {p : Nat} {ns : List (Nat × Name)} {fr : Fr} {frs : List Fr} {c : UInt8} {r : Bytes} : go ⟨p, c :: r, ns, fr :: frs⟩ = match stepC p ns fr frs c r with
    | .error e => .error e
    | .ok st => go st := by
  show run ((c :: r).length + 1) _ = _
  rw [run]
  simp only
  cases e : stepC p ns fr frs c r with
  | error e => rfl
  | ok st =>
    have l := stepC_len e
    exact run_fuel _ _ _ l (Nat.lt_succ_self _)
end Mach
end

section
open PatUtf PatWords
namespace Mach
def NoRep (b : Bytes) : Prop := ∀ c s, b = c :: s → isRep c = false
def EndsP (b : Bytes) : Prop := ∀ c s, b = c :: s → c = 41 ∨ c = 62
def EndsR (b : Bytes) : Prop := ∀ c s, b = c :: s → c = 124 ∨ c = 41 ∨ c = 62
def PatS (f : Nat) : Prop := ∀ (o : Nat) (ns : List (Nat × Name)) (p : Nat) (b : Bytes) (fr : Fr) (frs : List Fr), frs.length = o → 3 * b.length + 3 ≤ f → fr.last = false → fr.items = [] →
  match patP f o ns p b with
  | .error e => go ⟨p, b, ns, fr :: frs⟩ = .error e
  | .ok (a, ns', r, q) => ∃ rows items l, a = alts (rows ++ [seqs items]) ∧ go ⟨p, b, ns, fr :: frs⟩ = go ⟨q, r, ns', { fr with rows := fr.rows ++ rows, items := items, last := l } :: frs⟩ ∧ EndsP r ∧ r.length ≤ b.length
def RowS (f : Nat) : Prop := ∀ (o : Nat) (ns : List (Nat × Name)) (p : Nat) (b : Bytes) (fr : Fr) (frs : List Fr), frs.length = o → 3 * b.length + 2 ≤ f → fr.last = false ∨ NoRep b →
  match rowP f o ns p b with
  | .error e => go ⟨p, b, ns, fr :: frs⟩ = .error e
  | .ok (a, ns', r, q) => ∃ its l, a = seqs its ∧ go ⟨p, b, ns, fr :: frs⟩ = go ⟨q, r, ns', { fr with items := fr.items ++ its, last := l } :: frs⟩ ∧ EndsR r ∧ r.length ≤ b.length
def AtomS (f : Nat) : Prop := ∀ (o : Nat) (ns : List (Nat × Name)) (p : Nat) (c : UInt8) (r : Bytes) (fr : Fr) (frs : List Fr), frs.length = o → 3 * (r.length + 1) + 1 ≤ f → fr.last = false ∨ isRep c = false → ¬ (c = 124 ∨ c = 41 ∨ c = 62) →
  match atomP f o ns p (c :: r) with
  | .error e => go ⟨p, c :: r, ns, fr :: frs⟩ = .error e
  | .ok (a, ns', s, q) => go ⟨p, c :: r, ns, fr :: frs⟩ = go ⟨q, s, ns', fr.push a :: frs⟩ ∧ s.length ≤ r.length

theorem endsP_nil : EndsP [] := fun _ _ h => nomatch h
theorem endsR_nil : EndsR [] := fun _ _ h => nomatch h
theorem isRep_ne {c : UInt8} (h : isRep c = true) : c ≠ 124 ∧ c ≠ 40 ∧ c ≠ 60 ∧ c ≠ 41 ∧ c ≠ 62 := by
  simp only [isRep, Bool.or_eq_true, beq_iff_eq] at h
  rcases h with ((h | h) | h) | h <;> subst h <;> decide
theorem rep_ok (ns : List (Nat × Name)) (q : Nat) (r : Bytes) (fr : Fr) (frs : List Fr) (a : Pat) :
    match repP a q r with
    | .error e => go ⟨q, r, ns, fr.push a :: frs⟩ = .error e
    | .ok (a', r', q') => ∃ l, go ⟨q, r, ns, fr.push a :: frs⟩ = go ⟨q', r', ns, { fr with items := fr.items ++ [a'], last := l } :: frs⟩ ∧ (l = false ∨ NoRep r') ∧ r'.length ≤ r.length := by
  cases r with
  | nil => exact ⟨true, rfl, .inr (fun _ _ h => by cases h), Nat.le_refl _⟩
  | cons c s =>
    cases hc : isRep c with
    | false =>
      have e : repP a q (c :: s) = .ok (a, c :: s, q) := by
        simp only [isRep, Bool.or_eq_false_iff, beq_eq_false_iff_ne] at hc
        unfold repP
        simp only [hc.1.1.1, hc.1.1.2, hc.1.2, hc.2, if_false]
      rw [e]
      exact ⟨true, rfl, .inr (fun d u h => by cases h; exact hc), Nat.le_refl _⟩
    | true =>
      obtain ⟨n1, n2, n3, n4, n5⟩ := isRep_ne hc
      have step : go ⟨q, c :: s, ns, fr.push a :: frs⟩ = match repP a q (c :: s) with
          | .error e => .error e
          | .ok (a', r', q') => go ⟨q', r', ns, { fr with items := fr.items ++ [a'], last := false } :: frs⟩ := by
        rw [go_cons]
        have hl : (fr.items ++ [a]).getLast?.getD .nothing = a := by simp
        have hd : (fr.items ++ [a]).dropLast = fr.items := by simp
        unfold stepC
        simp only [n1, n2, n3, n4, n5, hc, if_false, if_true, or_self, Fr.push, hl]
        cases repP a q (c :: s) with
        | error e => rfl
        | ok y => simp only [Fr.swap, hd]
      cases e : repP a q (c :: s) with
      | error x => rw [step, e]
      | ok y =>
        obtain ⟨a', r', q'⟩ := y
        rw [e] at step
        exact ⟨false, step, .inl rfl, repP_len e⟩
theorem signs_rep {c : UInt8} (h : isRep c = true) : signs.contains c = true ∧ c ≠ 46 ∧ c ≠ 94 ∧ c ≠ 36 ∧ c ≠ 92 ∧ c ≠ 91 := by
  simp only [isRep, Bool.or_eq_true, beq_iff_eq] at h
  rcases h with ((h | h) | h) | h <;> subst h <;> decide
theorem atom_rep {f o : Nat} {ns : List (Nat × Name)} {p : Nat} {c : UInt8} {r : Bytes} (h : isRep c = true) : atomP (f + 1) o ns p (c :: r) = .error ⟨2, p⟩ := by
  obtain ⟨n1, n2, n3, n4, n5⟩ := isRep_ne h
  obtain ⟨k, m1, m2, m3, m4, m5⟩ := signs_rep h
  rw [atomP.eq_def (f + 1)]
  simp only [n2, n3, m1, m2, m3, m4, m5, k, if_false, if_true]
theorem two_open {p : Nat} {ns : List (Nat × Name)} {a b : Fr} {l : List Fr} : go ⟨p, [], ns, a :: b :: l⟩ = .error ⟨1, p⟩ := rfl
theorem main : ∀ f, PatS f ∧ RowS f ∧ AtomS f
  | 0 => ⟨fun _ _ _ _ _ _ _ h => by omega, fun _ _ _ _ _ _ _ h => by omega, fun _ _ _ _ _ _ _ _ h => by omega⟩
  | f + 1 => by
    obtain ⟨hP, hR, hA⟩ := main f
    refine ⟨?_, ?_, ?_⟩
    · intro o ns p b fr frs ho hf hl hi
      rw [patP.eq_2]
      have R := hR o ns p b fr frs ho (by omega) (.inl hl)
      cases e : rowP f o ns p b with
      | error x => rw [e] at R; exact R
      | ok y =>
        obtain ⟨a, ns1, r, q⟩ := y
        rw [e] at R
        obtain ⟨its, l, ea, eg, er, el⟩ := R
        rw [hi, List.nil_append] at eg
        simp only [bind, Except.bind]
        cases r with
        | nil => exact ⟨[], its, l, ea, by rw [eg, List.append_nil], endsP_nil, el⟩
        | cons c s =>
          simp only
          by_cases hc : c = 124
          · rw [if_pos hc]
            have P := hP o ns1 (q + 1) s (({ fr with items := its, last := l } : Fr).bar) frs ho (by simp only [List.length_cons] at el; omega) rfl rfl
            have eg2 : go ⟨p, b, ns, fr :: frs⟩ = go ⟨q + 1, s, ns1, ({ fr with items := its, last := l } : Fr).bar :: frs⟩ := by
              rw [eg, go_cons]
              unfold stepC
              rw [if_pos hc]
            cases e2 : patP f o ns1 (q + 1) s with
            | error x => rw [e2] at P; rw [eg2]; exact P
            | ok y =>
              obtain ⟨d, ns2, u, k⟩ := y
              rw [e2] at P
              obtain ⟨rows, items, l2, ed, eg3, eu, el3⟩ := P
              subst ea
              refine ⟨seqs its :: rows, items, l2, ?_, ?_, eu, by show u.length ≤ b.length; simp only [List.length_cons] at el; omega⟩
              · rw [ed]
                cases rows <;> rfl
              · rw [eg2, eg3]
                simp only [Fr.bar, List.append_assoc, List.singleton_append]
          · rw [if_neg hc]
            refine ⟨[], its, l, ea, by rw [eg, List.append_nil], fun d u h => ?_, el⟩
            cases h
            exact (er _ _ rfl).resolve_left hc
    · intro o ns p b fr frs ho hf hl
      cases b with
      | nil =>
        rw [rowP.eq_2]
        exact ⟨[], fr.last, rfl, by rw [List.append_nil], endsR_nil, Nat.le_refl _⟩
      | cons c r =>
        rw [rowP.eq_3]
        by_cases hc : c = 124 ∨ c = 41 ∨ c = 62
        · rw [if_pos hc]
          exact ⟨[], fr.last, rfl, by rw [List.append_nil], fun _ _ h => (by cases h; exact hc), Nat.le_refl _⟩
        · rw [if_neg hc]
          have A := hA o ns p c r fr frs ho (by simp only [List.length_cons] at hf; omega) (hl.imp id fun h => h _ _ rfl) hc
          cases e : atomP f o ns p (c :: r) with
          | error x => rw [e] at A; exact A
          | ok y =>
            obtain ⟨a, ns1, s, q⟩ := y
            rw [e] at A
            obtain ⟨eg, es⟩ := A
            simp only [bind, Except.bind]
            have P := rep_ok ns1 q s fr frs a
            cases e2 : repP a q s with
            | error x => rw [e2] at P; rw [eg]; exact P
            | ok y =>
              obtain ⟨a2, s2, q2⟩ := y
              rw [e2] at P
              obtain ⟨l2, eg2, en2, es2⟩ := P
              simp only
              have R := hR o ns1 q2 s2 { fr with items := fr.items ++ [a2], last := l2 } frs ho (by simp only [List.length_cons] at hf; omega) en2
              cases e3 : rowP f o ns1 q2 s2 with
              | error x => rw [e3] at R; rw [eg, eg2]; exact R
              | ok y =>
                obtain ⟨d, ns3, u, k⟩ := y
                rw [e3] at R
                obtain ⟨its, l3, ed, eg3, eu, el3⟩ := R
                refine ⟨a2 :: its, l3, by rw [ed]; rfl, ?_, eu, by simp only [List.length_cons]; omega⟩
                rw [eg, eg2, eg3]
                simp only [List.append_assoc, List.singleton_append]
    · intro o ns p c r fr frs ho hf hl hc
      cases hr : isRep c with
      | true =>
        rw [atom_rep hr]
        obtain ⟨n1, n2, n3, n4, n5⟩ := isRep_ne hr
        have h0 : fr.last = false := hl.resolve_right (by rw [hr]; decide)
        show go _ = _
        rw [go_cons]
        unfold stepC
        simp only [n1, n2, n3, n4, n5, hr, h0, if_false, if_true, or_self, Bool.false_eq_true]
      | false =>
        have c1 : c ≠ 124 := fun h => hc (.inl h)
        have c2 : c ≠ 41 := fun h => hc (.inr (.inl h))
        have c3 : c ≠ 62 := fun h => hc (.inr (.inr h))
        by_cases h40 : c = 40
        · subst h40
          rw [atomP.eq_def (f + 1)]
          rw [go_cons]
          unfold stepC
          simp only [(by decide : ¬ (40 : UInt8) = 46), (by decide : ¬ (40 : UInt8) = 94), (by decide : ¬ (40 : UInt8) = 36), (by decide : ¬ (40 : UInt8) = 92), (by decide : ¬ (40 : UInt8) = 91), (by decide : ¬ (40 : UInt8) = 124), if_false, if_true, ho]
          by_cases h5 : OPENED ≤ o
          · simp only [h5, if_true]
          · simp only [h5, if_false]
            have P := hP (o + 1) ns (p + 1) r (fresh [41] none) (fr :: frs) (by rw [List.length_cons, ho]) (by omega) rfl rfl
            cases e : patP f (o + 1) ns (p + 1) r with
            | error x => rw [e] at P; exact P
            | ok y =>
              obtain ⟨a, ns1, u, k⟩ := y
              rw [e] at P
              obtain ⟨rows, items, l, ea, eg, eu, el⟩ := P
              simp only [bind, Except.bind]
              cases u with
              | nil => exact eg.trans two_open
              | cons z v =>
                simp only
                by_cases hz : z = 41
                · subst hz
                  rw [if_pos rfl]
                  refine ⟨?_, by simp only [List.length_cons] at el; omega⟩
                  rw [eg, go_cons]
                  unfold stepC
                  simp only [(by decide : ¬ (41 : UInt8) = 124), (by decide : ¬ (41 : UInt8) = 40), (by decide : ¬ (41 : UInt8) = 60), if_false, if_true, true_or, fresh]
                  rw [ea]
                  rfl
                · rw [if_neg hz]
                  have hz2 : z = 62 := (eu _ _ rfl).resolve_left hz
                  subst hz2
                  show go _ = _
                  rw [eg, go_cons]
                  rfl
        · by_cases h60 : c = 60
          · subst h60
            rw [atomP.eq_def (f + 1)]
            rw [go_cons]
            unfold stepC
            simp only [(by decide : ¬ (60 : UInt8) = 46), (by decide : ¬ (60 : UInt8) = 94), (by decide : ¬ (60 : UInt8) = 36), (by decide : ¬ (60 : UInt8) = 92), (by decide : ¬ (60 : UInt8) = 91), (by decide : ¬ (60 : UInt8) = 124), (by decide : ¬ (60 : UInt8) = 40), if_false, if_true, ho]
            by_cases h5 : OPENED ≤ o
            · simp only [h5, if_true]
            · simp only [h5, if_false]
              cases r with
              | nil => rfl
              | cons d s =>
                unfold nameP
                simp only
                by_cases hd : isSmall d = false
                · simp only [hd, if_true]
                · have hd' : (isSmall d = false) = False := eq_false hd
                  simp only [hd', if_false]
                  by_cases h1 : ((d :: s).takeWhile inName).length = (d :: s).length
                  · simp only [h1, if_true]
                  · simp only [h1, if_false]
                    by_cases h4 : NAMELEN < ((d :: s).takeWhile inName).length ∨ (ns.any fun (y : Nat × Name) => y.2 == (d :: s).takeWhile inName) = true ∨ NAMES ≤ ns.length
                    · simp only [h4, if_true]
                    · simp only [h4, if_false]
                      have hdl : ((d :: s).drop ((d :: s).takeWhile inName).length).length = (d :: s).length - ((d :: s).takeWhile inName).length := List.length_drop
                      cases e6 : (d :: s).drop ((d :: s).takeWhile inName).length with
                      | nil => rfl
                      | cons e7 s7 =>
                        rw [e6] at hdl
                        simp only
                        by_cases h7 : e7 ≠ 32
                        · rw [if_pos h7, if_pos h7]
                        · rw [if_neg h7, if_neg h7]
                          have hs7 : s7.length < (d :: s).length := by simp only [List.length_cons] at hdl ⊢; omega
                          have P := hP (o + 1) (ns ++ [(p + 1, (d :: s).takeWhile inName)]) (p + 2 + ((d :: s).takeWhile inName).length) s7 (fresh [62] (some ((d :: s).takeWhile inName))) (fr :: frs) (by rw [List.length_cons, ho]) (by simp only [List.length_cons] at hf hs7; omega) rfl rfl
                          have ep : p + 1 + 1 + ((d :: s).takeWhile inName).length = p + 2 + ((d :: s).takeWhile inName).length := by omega
                          simp only [ep]
                          cases e : patP f (o + 1) (ns ++ [(p + 1, (d :: s).takeWhile inName)]) (p + 2 + ((d :: s).takeWhile inName).length) s7 with
                          | error x => rw [e] at P; exact P
                          | ok y =>
                            obtain ⟨a, ns1, u, k⟩ := y
                            rw [e] at P
                            obtain ⟨rows, items, l, ea, eg, eu, el⟩ := P
                            simp only [bind, Except.bind]
                            cases u with
                            | nil => exact eg.trans two_open
                            | cons z v =>
                              simp only
                              by_cases hz : z = 62
                              · subst hz
                                rw [if_pos rfl]
                                refine ⟨?_, by simp only [List.length_cons] at el hs7 ⊢; omega⟩
                                rw [eg, go_cons]
                                unfold stepC
                                simp only [(by decide : ¬ (62 : UInt8) = 124), (by decide : ¬ (62 : UInt8) = 40), (by decide : ¬ (62 : UInt8) = 60), if_false, if_true, or_true, fresh]
                                rw [ea]
                                rfl
                              · rw [if_neg hz]
                                have hz2 : z = 41 := (eu _ _ rfl).resolve_right hz
                                subst hz2
                                show go _ = _
                                rw [eg, go_cons]
                                rfl
          · rw [atom_single h40 h60]
            have step : go ⟨p, c :: r, ns, fr :: frs⟩ = match atomP 1 0 [] p (c :: r) with
                | .error e => .error e
                | .ok (a, _, s, q) => go ⟨q, s, ns, fr.push a :: frs⟩ := by
              rw [go_cons]
              unfold stepC
              simp only [c1, c2, c3, h40, h60, hr, if_false, or_self, Bool.false_eq_true]
              cases atomP 1 0 [] p (c :: r) <;> rfl
            cases e : atomP 1 0 [] p (c :: r) with
            | error x => rw [step, e]
            | ok y =>
              have hlen := atom1_len h40 h60 e
              obtain ⟨a, n0, s, q⟩ := y
              rw [e] at step
              exact ⟨step, by simp only [List.length_cons] at hlen; omega⟩
def start (b : Bytes) : St := ⟨0, b, [], [fresh [] none]⟩
/-- **The reader with a pile answers as the specification's reader.** -/
theorem go_read (b : Bytes) : go (start b) = PatWords.read b := by
  have P := (main (4 * b.length + 8)).1 0 [] 0 b (fresh [] none) [] rfl (by omega) rfl rfl
  unfold PatWords.read
  unfold start
  cases e : patP (4 * b.length + 8) 0 [] 0 b with
  | error x => rw [e] at P; exact P
  | ok y =>
    obtain ⟨a, ns, r, q⟩ := y
    rw [e] at P
    obtain ⟨rows, items, l, ea, eg, er, el⟩ := P
    rw [eg]
    cases r with
    | nil =>
      rw [go_nil]
      simp only [finish, Fr.pat, fresh, List.nil_append, ne_eq, not_true, if_false]
      rw [ea]
      rfl
    | cons c s =>
      simp only [ne_eq, reduceCtorEq, not_false_iff, if_true]
      rw [go_cons]
      have hc : c = 41 ∨ c = 62 := er _ _ rfl
      rcases hc with h | h <;> subst h <;> rfl
end Mach
end

section
open PatUtf PatWords
namespace Ways
/-! # All ways, and the first one to each end. Pure: the specification's tables are the first ones of all ways. -/
/-- the first of each end that is not seen yet -/
def ddS (seen : List Nat) : Ends → Ends
  | [] => []
  | z :: l => if z.1 ∈ seen then ddS seen l else z :: ddS (z.1 :: seen) l
abbrev dd (l : Ends) : Ends := ddS [] l
abbrev ends (l : Ends) : List Nat := l.map (·.1)
theorem ddS_congr : ∀ (l : Ends) (s s' : List Nat), (∀ e, e ∈ s ↔ e ∈ s') → ddS s l = ddS s' l
  | [], _, _, _ => rfl
  | z :: l, s, s', h => by
    unfold ddS
    by_cases c : z.1 ∈ s
    · rw [if_pos c, if_pos ((h _).mp c)]
      exact ddS_congr l s s' h
    · rw [if_neg c, if_neg (fun x => c ((h _).mpr x))]
      rw [ddS_congr l (z.1 :: s) (z.1 :: s') (fun e => by simp only [List.mem_cons, h])]
theorem ddS_append : ∀ (l m : Ends) (s : List Nat), ddS s (l ++ m) = ddS s l ++ ddS (ends l ++ s) m
  | [], m, s => rfl
  | z :: l, m, s => by
    show ddS s (z :: (l ++ m)) = ddS s (z :: l) ++ _
    by_cases c : z.1 ∈ s
    · have e1 : ddS s (z :: (l ++ m)) = ddS s (l ++ m) := by rw [ddS, if_pos c]
      have e2 : ddS s (z :: l) = ddS s l := by rw [ddS, if_pos c]
      rw [e1, e2, ddS_append l m s]
      congr 1
      refine ddS_congr m _ _ fun e => ?_
      simp only [ends, List.map_cons, List.cons_append, List.mem_cons, List.mem_append]
      constructor
      · exact Or.inr
      · rintro (h | h)
        · exact .inr (h ▸ c)
        · exact h
    · have e1 : ddS s (z :: (l ++ m)) = z :: ddS (z.1 :: s) (l ++ m) := by rw [ddS, if_neg c]
      have e2 : ddS s (z :: l) = z :: ddS (z.1 :: s) l := by rw [ddS, if_neg c]
      rw [e1, e2, ddS_append l m (z.1 :: s), List.cons_append]
      congr 2
      refine ddS_congr m _ _ fun e => ?_
      simp only [ends, List.map_cons, List.cons_append, List.mem_cons, List.mem_append]
      constructor
      · rintro (h | h | h)
        · exact .inr (.inl h)
        · exact .inl h
        · exact .inr (.inr h)
      · rintro (h | h | h)
        · exact .inr (.inl h)
        · exact .inl h
        · exact .inr (.inr h)
theorem ddS_ends (e : Nat) : ∀ (l : Ends) (s : List Nat), e ∈ ends (ddS s l) ↔ (e ∈ ends l ∧ e ∉ s)
  | [], s => by simp [ddS]
  | z :: l, s => by
    unfold ddS
    by_cases c : z.1 ∈ s
    · rw [if_pos c, ddS_ends e l s]
      simp only [ends, List.map_cons, List.mem_cons]
      constructor
      · rintro ⟨h1, h2⟩
        exact ⟨.inr h1, h2⟩
      · rintro ⟨h1 | h1, h2⟩
        · exact absurd (h1 ▸ c) h2
        · exact ⟨h1, h2⟩
    · rw [if_neg c]
      simp only [ends, List.map_cons, List.mem_cons]
      have ih := ddS_ends e l (z.1 :: s)
      simp only [ends, List.mem_cons, not_or] at ih
      rw [ih]
      constructor
      · rintro (h | ⟨h1, h2, h3⟩)
        · subst h
          exact ⟨.inl rfl, c⟩
        · exact ⟨.inr h1, h3⟩
      · rintro ⟨h1 | h1, h2⟩
        · exact .inl h1
        · by_cases h : e = z.1
          · exact .inl h
          · exact .inr ⟨h1, h, h2⟩
theorem ddS_none : ∀ (l : Ends) (s : List Nat), (∀ e ∈ ends l, e ∈ s) → ddS s l = []
  | [], _, _ => rfl
  | z :: l, s, h => by
    unfold ddS
    rw [if_pos (h _ (List.mem_cons_self ..))]
    exact ddS_none l s fun e m => h e (List.mem_cons_of_mem _ m)
theorem ddS_sub : ∀ (l : Ends) (s : List Nat), ∀ z ∈ ddS s l, z ∈ l
  | [], _, _, h => nomatch h
  | y :: l, s, z, h => by
    unfold ddS at h
    by_cases c : y.1 ∈ s
    · rw [if_pos c] at h
      exact List.mem_cons_of_mem _ (ddS_sub l s z h)
    · rw [if_neg c] at h
      rcases List.mem_cons.mp h with h | h
      · rw [h]
        exact List.mem_cons_self ..
      · exact List.mem_cons_of_mem _ (ddS_sub l _ z h)
/-- what is mapped without a change of its end -/
theorem ddS_map (f : Nat × Caps → Nat × Caps) (hf : ∀ z, (f z).1 = z.1) : ∀ (l : Ends) (s : List Nat), ddS s (l.map f) = (ddS s l).map f
  | [], _ => rfl
  | z :: l, s => by
    show ddS s (f z :: l.map f) = _
    unfold ddS
    rw [hf z]
    by_cases c : z.1 ∈ s
    · rw [if_pos c, if_pos c]
      exact ddS_map f hf l s
    · rw [if_neg c, if_neg c, ddS_map f hf l, List.map_cons]
/-- what is sifted already -/
theorem ddS_dd : ∀ (l : Ends) (s s' : List Nat), (∀ e ∈ s', e ∈ s) → ddS s (ddS s' l) = ddS s l
  | [], _, _, _ => rfl
  | z :: l, s, s', h => by
    by_cases c' : z.1 ∈ s'
    · have e1 : ddS s' (z :: l) = ddS s' l := by rw [ddS, if_pos c']
      have e2 : ddS s (z :: l) = ddS s l := by rw [ddS, if_pos (h _ c')]
      rw [e1, e2]
      exact ddS_dd l s s' h
    · have e1 : ddS s' (z :: l) = z :: ddS (z.1 :: s') l := by rw [ddS, if_neg c']
      rw [e1]
      by_cases c : z.1 ∈ s
      · have e2 : ddS s (z :: l) = ddS s l := by rw [ddS, if_pos c]
        have e3 : ddS s (z :: ddS (z.1 :: s') l) = ddS s (ddS (z.1 :: s') l) := by rw [ddS, if_pos c]
        rw [e2, e3]
        refine ddS_dd l s (z.1 :: s') fun e m => ?_
        rcases List.mem_cons.mp m with m | m
        · exact m ▸ c
        · exact h e m
      · have e2 : ddS s (z :: l) = z :: ddS (z.1 :: s) l := by rw [ddS, if_neg c]
        have e3 : ddS s (z :: ddS (z.1 :: s') l) = z :: ddS (z.1 :: s) (ddS (z.1 :: s') l) := by rw [ddS, if_neg c]
        rw [e2, e3]
        congr 1
        refine ddS_dd l _ _ fun e m => ?_
        rcases List.mem_cons.mp m with m | m
        · rw [m]
          exact List.mem_cons_self ..
        · exact List.mem_cons_of_mem _ (h e m)
/-- followed by -/
def glue (F : Nat → Ends) (z : Nat × Caps) : Ends := (F z.1).map fun (y : Nat × Caps) => (y.1, y.2 ++ z.2)
theorem glue_ends (F : Nat → Ends) (z : Nat × Caps) : ends (glue F z) = ends (F z.1) := by
  unfold glue ends
  rw [List.map_map]
  rfl
theorem ddS_glue (F F' : Nat → Ends) (h : ∀ e s, ddS s (F e) = ddS s (F' e)) (z : Nat × Caps) (s : List Nat) : ddS s (glue F z) = ddS s (glue F' z) := by
  unfold glue
  rw [ddS_map (fun (y : Nat × Caps) => (y.1, y.2 ++ z.2)) (fun _ => rfl), ddS_map (fun (y : Nat × Caps) => (y.1, y.2 ++ z.2)) (fun _ => rfl), h]
/-- alike but for what is no first one -/
def Same (x y : Ends) : Prop := ∀ s, ddS s x = ddS s y
theorem Same.refl (x : Ends) : Same x x := fun _ => rfl
theorem Same.symm {x y : Ends} (h : Same x y) : Same y x := fun s => (h s).symm
theorem Same.trans {x y z : Ends} (h : Same x y) (k : Same y z) : Same x z := fun s => (h s).trans (k s)
theorem Same.ends {x y : Ends} (h : Same x y) (e : Nat) : e ∈ Ways.ends x ↔ e ∈ Ways.ends y := by
  have h1 := ddS_ends e x []
  have h2 := ddS_ends e y []
  rw [h []] at h1
  simp only [List.not_mem_nil, not_false_iff, and_true] at h1 h2
  rw [← h1, h2]
theorem same_dd (x : Ends) : Same (dd x) x := fun s => ddS_dd x s [] fun _ m => nomatch m
theorem Same.of_dd {x y : Ends} (h : dd x = dd y) : Same x y := (same_dd x).symm.trans (h ▸ same_dd y)
theorem Same.append {x x' y y' : Ends} (h : Same x x') (k : Same y y') : Same (x ++ y) (x' ++ y') := fun s => by
  rw [ddS_append, ddS_append, h s, k]
  congr 1
  refine ddS_congr _ _ _ fun e => ?_
  simp only [List.mem_append]
  rw [h.ends e]
theorem Same.map {x y : Ends} (f : Nat × Caps → Nat × Caps) (hf : ∀ z, (f z).1 = z.1) (h : Same x y) : Same (x.map f) (y.map f) := fun s => by
  rw [ddS_map f hf, ddS_map f hf, h s]
theorem Same.glue {F F' : Nat → Ends} (h : ∀ e, Same (F e) (F' e)) (z : Nat × Caps) : Same (Ways.glue F z) (Ways.glue F' z) := fun s => ddS_glue F F' (fun e s => h e s) z s
/-- of ways that end alike only the first needs to be followed -/
theorem same_flat_dd (F : Nat → Ends) : ∀ (l : Ends) (seenL s : List Nat), (∀ e ∈ seenL, ∀ y ∈ ends (F e), y ∈ s) → ddS s (l.flatMap (glue F)) = ddS s ((ddS seenL l).flatMap (glue F))
  | [], _, _, _ => rfl
  | z :: l, seenL, s, h => by
    rw [List.flatMap_cons]
    by_cases c : z.1 ∈ seenL
    · have e1 : ddS seenL (z :: l) = ddS seenL l := by rw [ddS, if_pos c]
      rw [e1, ddS_append, ddS_none _ s (by rw [glue_ends]; exact h _ c), List.nil_append]
      rw [same_flat_dd F l seenL _ (fun e m y hy => List.mem_append_right _ (h e m y hy))]
      refine ddS_congr _ _ _ fun e => ?_
      rw [glue_ends, List.mem_append]
      exact ⟨fun x => x.elim (h _ c e) id, .inr⟩
    · have e1 : ddS seenL (z :: l) = z :: ddS (z.1 :: seenL) l := by rw [ddS, if_neg c]
      rw [e1, List.flatMap_cons, ddS_append, ddS_append]
      congr 1
      refine same_flat_dd F l (z.1 :: seenL) _ fun e m y hy => ?_
      rw [glue_ends, List.mem_append]
      rcases List.mem_cons.mp m with m | m
      · subst m
        exact .inl hy
      · exact .inr (h e m y hy)
theorem Same.flat_right {F F' : Nat → Ends} (h : ∀ e, Same (F e) (F' e)) : ∀ l : Ends, Same (l.flatMap (Ways.glue F)) (l.flatMap (Ways.glue F'))
  | [] => Same.refl _
  | z :: l => by
    rw [List.flatMap_cons, List.flatMap_cons]
    exact (Same.glue h z).append (Same.flat_right h l)
theorem Same.flat {l l' : Ends} {F F' : Nat → Ends} (hl : Same l l') (h : ∀ e, Same (F e) (F' e)) : Same (l.flatMap (Ways.glue F)) (l'.flatMap (Ways.glue F')) := by
  have k : ∀ x : Ends, Same (x.flatMap (Ways.glue F)) ((dd x).flatMap (Ways.glue F)) := fun x s => same_flat_dd F x [] s fun _ m => nomatch m
  refine (k l).trans ?_
  have e : dd l = dd l' := hl []
  rw [e]
  exact (k l').symm.trans (Same.flat_right h l')
/-! ## firstEach -/
theorem firstEach_go (n : Nat) : ∀ (l acc : Ends) (v : Array Bool) (s : List Nat), (∀ z ∈ l, z.1 ≤ n) → v.size = n + 1 → (∀ e ≤ n, v.getD e false = true ↔ e ∈ s) →
    (l.foldl (fun (x : Ends × Array Bool) (z : Nat × Caps) => if x.2.getD z.1 false = true then x else (z :: x.1, x.2.setIfInBounds z.1 true)) (acc, v)).1 = (ddS s l).reverse ++ acc
  | [], acc, v, s, _, _, _ => rfl
  | z :: l, acc, v, s, hb, hv, hs => by
    rw [List.foldl_cons]
    have hz := hb z (List.mem_cons_self ..)
    by_cases c : z.1 ∈ s
    · rw [if_pos ((hs _ hz).mpr c), ddS, if_pos c]
      exact firstEach_go n l acc v s (fun y m => hb y (List.mem_cons_of_mem _ m)) hv hs
    · rw [if_neg (fun x => c ((hs _ hz).mp x)), ddS, if_neg c]
      rw [firstEach_go n l (z :: acc) (v.setIfInBounds z.1 true) (z.1 :: s) (fun y m => hb y (List.mem_cons_of_mem _ m)) (by rw [Array.size_setIfInBounds, hv]) ?_]
      · rw [List.reverse_cons, List.append_assoc]
        rfl
      · intro e he
        have h0 := hs e he
        rw [Array.getD_eq_getD_getElem?] at h0 ⊢
        rw [Array.getElem?_setIfInBounds]
        by_cases ce : z.1 = e
        · subst ce
          rw [if_pos rfl, if_pos (by omega)]
          simp
        · rw [if_neg ce, h0]
          simp only [List.mem_cons]
          exact ⟨.inr, fun x => x.resolve_left fun y => ce y.symm⟩
theorem firstEach_dd {n : Nat} {l : Ends} (h : ∀ z ∈ l, z.1 ≤ n) : firstEach n l = dd l := by
  unfold firstEach
  rw [firstEach_go n l [] _ [] h (by simp) ?_]
  · simp
  · intro e he
    rw [Array.getD_eq_getD_getElem?, Array.getElem?_replicate, if_pos (by omega)]
    simp
end Ways
end

section
open PatUtf PatWords
namespace Ways
/-! ## Again and again -/
def more (most : Option Nat) (k : Nat) : Bool := most.all fun (x : Nat) => decide (k < x)
/-- all ways of a repetition from a place, k gone through already (f: as many steps as there can be) -/
def repW (w : Nat → Ends) (m : Nat) (most : Option Nat) : Nat → Nat → Nat → Ends
  | 0, _, _ => []
  | f + 1, k, i => (if more most k = true then ((w i).filter fun z => !(decide (z.1 = i) && decide (m ≤ k))).flatMap (glue fun j => repW w m most f (k + 1) j) else []) ++ (if m ≤ k then [(i, [])] else [])
/-- an end of a repetition -/
inductive Reach (w : Nat → Ends) (m : Nat) (most : Option Nat) : Nat → Nat → Nat → Prop
  | stop {k i : Nat} : m ≤ k → Reach w m most k i i
  | step {k i e : Nat} {z : Nat × Caps} : more most k = true → z ∈ w i → ¬ (z.1 = i ∧ m ≤ k) → Reach w m most (k + 1) z.1 e → Reach w m most k i e
/-- from a place not before it, not behind the text's end -/
def Fwd (w : Nat → Ends) (n : Nat) : Prop := ∀ i, i ≤ n → ∀ z ∈ w i, i ≤ z.1 ∧ z.1 ≤ n
section
variable {w : Nat → Ends} {m n : Nat} {most : Option Nat}
theorem mem_ends {l : Ends} {e : Nat} : e ∈ ends l ↔ ∃ z ∈ l, z.1 = e := by
  unfold ends
  rw [List.mem_map]
theorem keep_of {z : Nat × Caps} {k i m : Nat} (h : ¬ (z.1 = i ∧ m ≤ k)) : (!(decide (z.1 = i) && decide (m ≤ k))) = true := by
  by_cases a : z.1 = i
  · by_cases b : m ≤ k
    · exact absurd ⟨a, b⟩ h
    · rw [decide_eq_false b, Bool.and_false]
      rfl
  · rw [decide_eq_false a, Bool.false_and]
    rfl
theorem filt {k i : Nat} {z : Nat × Caps} : z ∈ (w i).filter (fun z => !(decide (z.1 = i) && decide (m ≤ k))) ↔ z ∈ w i ∧ ¬ (z.1 = i ∧ m ≤ k) := by
  rw [List.mem_filter]
  constructor
  · rintro ⟨h1, h2⟩
    refine ⟨h1, fun x => ?_⟩
    rw [decide_eq_true x.1, decide_eq_true x.2] at h2
    cases h2
  · rintro ⟨h1, h2⟩
    exact ⟨h1, keep_of h2⟩
theorem ends_flat {l : Ends} {F : Nat → Ends} {e : Nat} : e ∈ ends (l.flatMap (glue F)) ↔ ∃ z ∈ l, e ∈ ends (F z.1) := by
  rw [mem_ends]
  constructor
  · rintro ⟨y, hy, rfl⟩
    obtain ⟨z, hz, hy⟩ := List.mem_flatMap.mp hy
    refine ⟨z, hz, ?_⟩
    rw [← glue_ends F z]
    exact mem_ends.mpr ⟨y, hy, rfl⟩
  · rintro ⟨z, hz, he⟩
    rw [← glue_ends F z] at he
    obtain ⟨y, hy, rfl⟩ := mem_ends.mp he
    exact ⟨y, List.mem_flatMap.mpr ⟨z, hz, hy⟩, rfl⟩
theorem repW_sound : ∀ (f k i e : Nat), e ∈ ends (repW w m most f k i) → Reach w m most k i e
  | 0, _, _, _, h => nomatch h
  | f + 1, k, i, e, h => by
    unfold repW at h
    rw [ends, List.map_append, List.mem_append] at h
    rcases h with h | h
    · by_cases c : more most k = true
      · rw [if_pos c] at h
        obtain ⟨z, hz, he⟩ := ends_flat.mp h
        obtain ⟨h1, h2⟩ := filt.mp hz
        exact .step c h1 h2 (repW_sound f (k + 1) z.1 e he)
      · rw [if_neg c] at h
        cases h
    · by_cases c : m ≤ k
      · rw [if_pos c] at h
        have : e = i := by simpa using h
        subst this
        exact .stop c
      · rw [if_neg c] at h
        cases h
theorem repW_complete (hw : Fwd w n) {k i e : Nat} (h : Reach w m most k i e) : ∀ f, i ≤ n → (m - k) + (n - i) + 1 ≤ f → e ∈ ends (repW w m most f k i) := by
  induction h with
  | @stop k i c =>
    intro f hi hf
    obtain ⟨f, rfl⟩ : ∃ g, f = g + 1 := ⟨f - 1, by omega⟩
    unfold repW
    rw [ends, List.map_append, if_pos c]
    exact List.mem_append_right _ (by simp)
  | @step k i e z c hz hne _ ih =>
    intro f hi hf
    obtain ⟨f, rfl⟩ : ∃ g, f = g + 1 := ⟨f - 1, by omega⟩
    obtain ⟨h1, h2⟩ := hw i hi z hz
    unfold repW
    rw [ends, List.map_append, if_pos c]
    refine List.mem_append_left _ (ends_flat.mpr ⟨z, filt.mpr ⟨hz, hne⟩, ih f h2 ?_⟩)
    by_cases cm : m ≤ k
    · have : z.1 ≠ i := fun x => hne ⟨x, cm⟩
      omega
    · omega
theorem reach_le (hw : Fwd w n) {k i e : Nat} (h : Reach w m most k i e) : i ≤ n → i ≤ e ∧ e ≤ n := by
  induction h with
  | stop => exact fun hi => ⟨Nat.le_refl _, hi⟩
  | @step k i e z c hz hne _ ih =>
    intro hi
    obtain ⟨h1, h2⟩ := hw i hi z hz
    obtain ⟨h3, h4⟩ := ih h2
    exact ⟨Nat.le_trans h1 h3, h4⟩
/-- how often it has been gone through, as far as it matters -/
def kk (m : Nat) (most : Option Nat) (k : Nat) : Nat := if most.isNone = true then min k m else k
theorem reach_kk {k i e : Nat} (h : Reach w m most k i e) : ∀ k', kk m most k' = kk m most k → Reach w m most k' i e := by
  induction h with
  | @stop k i c =>
    intro k' hk
    unfold kk at hk
    cases most with
    | none =>
      simp only [Option.isNone_none, if_true] at hk
      exact .stop (by omega)
    | some x =>
      simp only [Option.isNone_some, Bool.false_eq_true, if_false] at hk
      exact .stop (by omega)
  | @step k i e z c hz hne _ ih =>
    intro k' hk
    unfold kk at hk ih
    cases most with
    | none =>
      simp only [Option.isNone_none, if_true] at hk ih
      exact .step rfl hz (fun x => hne ⟨x.1, by omega⟩) (ih (k' + 1) (by omega))
    | some x =>
      simp only [Option.isNone_some, Bool.false_eq_true, if_false] at hk ih
      subst hk
      exact .step c hz hne (ih (k' + 1) rfl)
def keyOf (n m : Nat) (most : Option Nat) (k i : Nat) : Nat := kk m most k * (n + 1) + i
theorem key_inj {k i k' i' : Nat} (hi : i ≤ n) (hi' : i' ≤ n) (h : keyOf n m most k i = keyOf n m most k' i') : kk m most k = kk m most k' ∧ i = i' := by
  unfold keyOf at h
  have h1 : (kk m most k * (n + 1) + i) / (n + 1) = kk m most k := by
    rw [Nat.mul_comm, Nat.mul_add_div (by omega), Nat.div_eq_of_lt (by omega), Nat.add_zero]
  have h2 : (kk m most k' * (n + 1) + i') / (n + 1) = kk m most k' := by
    rw [Nat.mul_comm, Nat.mul_add_div (by omega), Nat.div_eq_of_lt (by omega), Nat.add_zero]
  have h3 : kk m most k = kk m most k' := by rw [← h1, ← h2, h]
  rw [h3] at h
  exact ⟨h3, by omega⟩
theorem key_up {k i j : Nat} (hi : i ≤ n) (hij : i ≤ j) (hne : ¬ (j = i ∧ m ≤ k)) : keyOf n m most k i < keyOf n m most (k + 1) j := by
  unfold keyOf
  have up : kk m most k ≤ kk m most (k + 1) := by
    unfold kk
    split <;> omega
  by_cases c : kk m most k < kk m most (k + 1)
  · have : (kk m most k + 1) * (n + 1) ≤ kk m most (k + 1) * (n + 1) := Nat.mul_le_mul_right _ c
    rw [Nat.add_mul] at this
    omega
  · have e : kk m most (k + 1) = kk m most k := by omega
    have : m ≤ k := by
      unfold kk at e
      split at e <;> omega
    rw [e]
    have : j ≠ i := fun x => hne ⟨x, by assumption⟩
    omega
/-- all that can be reached from a key's place has been told -/
def Done (w : Nat → Ends) (n m : Nat) (most : Option Nat) (q : Nat) (out : Ends) : Prop := ∀ k i e, i ≤ n → keyOf n m most k i = q → Reach w m most k i e → e ∈ ends out
theorem Done.more {q : Nat} {out out' : Ends} (h : Done w n m most q out) (k : ∀ e ∈ ends out, e ∈ ends out') : Done w n m most q out' := fun a b e hb hk hr => k e (h a b e hb hk hr)
/-- what one look of the walk does -/
structure Walked (w : Nat → Ends) (n m : Nat) (most : Option Nat) (lowest : Nat) (s s' : Been) (new : Ends) : Prop where
  told : Same s'.2.reverse (s.2.reverse ++ new)
  stays : ∀ q, s.1.getD q false = true → s'.1.getD q false = true
  done : ∀ q, s'.1.getD q false = true → s.1.getD q false = true ∨ (lowest ≤ q ∧ Done w n m most q s'.2)
  inn : (∀ e ∈ ends s.2, e ≤ n) → ∀ e ∈ ends s'.2, e ≤ n
theorem ends_rev {l : Ends} {e : Nat} : e ∈ ends l.reverse ↔ e ∈ ends l := by
  unfold ends
  rw [List.map_reverse, List.mem_reverse]
theorem Walked.ends {lowest : Nat} {s s' : Been} {new : Ends} (h : Walked w n m most lowest s s' new) (e : Nat) : e ∈ Ways.ends s'.2 ↔ e ∈ Ways.ends s.2 ∨ e ∈ Ways.ends new := by
  have := h.told.ends e
  rw [ends_rev] at this
  rw [this, Ways.ends, List.map_append, List.mem_append]
  show e ∈ Ways.ends s.2.reverse ∨ _ ↔ _
  rw [ends_rev]
theorem Walked.refl {lowest : Nat} {s : Been} : Walked w n m most lowest s s [] := ⟨by rw [List.append_nil]; exact Same.refl _, fun _ h => h, fun _ h => .inl h, fun h => h⟩
theorem Walked.trans {lowest : Nat} {s s1 s2 : Been} {a b : Ends} (h : Walked w n m most lowest s s1 a) (k : Walked w n m most lowest s1 s2 b) : Walked w n m most lowest s s2 (a ++ b) where
  told := by
    refine k.told.trans ?_
    rw [← List.append_assoc]
    exact h.told.append (Same.refl b)
  stays q hq := k.stays q (h.stays q hq)
  done q hq := by
    rcases k.done q hq with h1 | h1
    · rcases h.done q h1 with h2 | h2
      · exact .inl h2
      · exact .inr ⟨h2.1, h2.2.more fun e he => (k.ends e).mpr (.inl he)⟩
    · exact .inr h1
  inn hs := k.inn (h.inn hs)
theorem Walked.lower {l l' : Nat} {s s' : Been} {a : Ends} (h : Walked w n m most l s s' a) (hl : l' ≤ l) : Walked w n m most l' s s' a :=
  ⟨h.told, h.stays, fun q hq => (h.done q hq).imp id fun x => ⟨Nat.le_trans hl x.1, x.2⟩, h.inn⟩
def withC (c : Caps) (l : Ends) : Ends := l.map fun (y : Nat × Caps) => (y.1, y.2 ++ c)
theorem withC_ends (c : Caps) (l : Ends) : Ways.ends (withC c l) = Ways.ends l := by
  unfold withC Ways.ends
  rw [List.map_map]
  rfl
theorem withC_append (c : Caps) (l l' : Ends) : withC c (l ++ l') = withC c l ++ withC c l' := List.map_append
theorem withC_glue (c : Caps) (F : Nat → Ends) (z : Nat × Caps) : withC c (glue F z) = withC (z.2 ++ c) (F z.1) := by
  unfold withC glue
  rw [List.map_map]
  congr 1
  funext y
  simp [List.append_assoc]
theorem getD_set {v : Array Bool} {i q : Nat} (h : (v.setIfInBounds i true).getD q false = true) : v.getD q false = true ∨ q = i := by
  rw [Array.getD_eq_getD_getElem?] at h ⊢
  rw [Array.getElem?_setIfInBounds] at h
  by_cases c : i = q
  · exact .inr c.symm
  · rw [if_neg c] at h
    exact .inl h
theorem getD_stays {v : Array Bool} {i q : Nat} (h : v.getD q false = true) : (v.setIfInBounds i true).getD q false = true := by
  rw [Array.getD_eq_getD_getElem?] at h ⊢
  rw [Array.getElem?_setIfInBounds]
  by_cases c : i = q
  · subst c
    rw [if_pos rfl]
    by_cases b : i < v.size
    · rw [if_pos b]
      rfl
    · rw [Array.getElem?_eq_none (by omega)] at h
      cases h
  · rw [if_neg c]
    exact h
/-- **The walk with a record of where it has been tells the first ways.** -/
theorem loop_walked (hw : Fwd w n) : ∀ (f k i : Nat) (c : Caps) (s : Been), i ≤ n → (m - k) + (n - i) + 1 ≤ f → (∀ q, s.1.getD q false = true → keyOf n m most k i ≤ q → Done w n m most q s.2) →
    Walked w n m most (keyOf n m most k i) s (loop w n m most f k i c s) (withC c (repW w m most f k i))
  | 0, _, _, _, _, _, hf, _ => by omega
  | f + 1, k, i, c, s, hi, hf, hs => by
    have ekey : (if most.isNone = true then min k m else k) * (n + 1) + i = keyOf n m most k i := rfl
    rw [loop]
    simp only [ekey]
    by_cases cv : s.1.getD (keyOf n m most k i) false = true
    · rw [if_pos cv]
      have hd := hs _ cv (Nat.le_refl _)
      refine ⟨fun x => ?_, fun _ h => h, fun _ h => .inl h, fun h => h⟩
      rw [ddS_append, ddS_none (withC c (repW w m most (f + 1) k i)), List.append_nil]
      intro e he
      rw [withC_ends] at he
      exact List.mem_append_left _ (ends_rev.mpr (hd k i e hi rfl (repW_sound _ _ _ _ he)))
    · rw [if_neg cv]
      -- the children, from the left
      have kids : ∀ (l : Ends) (t : Been), (∀ z ∈ l, z ∈ w i) → (∀ q, t.1.getD q false = true → keyOf n m most k i < q → Done w n m most q t.2) →
          Walked w n m most (keyOf n m most k i + 1) t (l.foldl (fun (t : Been) (z : Nat × Caps) => if z.1 = i ∧ m ≤ k then t else loop w n m most f (k + 1) z.1 (z.2 ++ c) t) t)
            (withC c ((l.filter fun z => !(decide (z.1 = i) && decide (m ≤ k))).flatMap (glue fun j => repW w m most f (k + 1) j))) := by
        intro l
        induction l with
        | nil => exact fun t _ _ => Walked.refl
        | cons z l ih =>
          intro t hl ht
          rw [List.foldl_cons]
          by_cases cz : z.1 = i ∧ m ≤ k
          · rw [if_pos cz, List.filter_cons_of_neg (by simp [cz])]
            exact ih t (fun y hy => hl y (List.mem_cons_of_mem _ hy)) ht
          · rw [if_neg cz, List.filter_cons_of_pos (by exact keep_of cz), List.flatMap_cons, withC_append, withC_glue]
            obtain ⟨h1, h2⟩ := hw i hi z (hl z (List.mem_cons_self ..))
            have hup : keyOf n m most k i < keyOf n m most (k + 1) z.1 := key_up hi h1 cz
            have step := loop_walked hw f (k + 1) z.1 (z.2 ++ c) t h2 (by
              by_cases cm : m ≤ k
              · have : z.1 ≠ i := fun x => cz ⟨x, cm⟩
                omega
              · omega) (fun q hq hle => ht q hq (Nat.lt_of_lt_of_le hup hle))
            refine (step.lower hup).trans (ih _ (fun y hy => hl y (List.mem_cons_of_mem _ hy)) fun q hq hlt => ?_)
            rcases step.done q hq with h3 | h3
            · exact (ht q h3 hlt).more fun e he => (step.ends e).mpr (.inl he)
            · exact h3.2
      have hs1 : ∀ q, (s.1.setIfInBounds (keyOf n m most k i) true).getD q false = true → keyOf n m most k i < q → Done w n m most q s.2 := fun q hq hlt => by
        rcases getD_set hq with h | h
        · exact hs q h (Nat.le_of_lt hlt)
        · omega
      -- behind the children
      have mid : ∃ new, Walked w n m most (keyOf n m most k i + 1) (s.1.setIfInBounds (keyOf n m most k i) true, s.2)
          (if (most.all fun (x : Nat) => decide (k < x)) = true then (w i).foldl (fun (t : Been) (z : Nat × Caps) => if z.1 = i ∧ m ≤ k then t else loop w n m most f (k + 1) z.1 (z.2 ++ c) t) (s.1.setIfInBounds (keyOf n m most k i) true, s.2) else (s.1.setIfInBounds (keyOf n m most k i) true, s.2)) (withC c new) ∧
          repW w m most (f + 1) k i = new ++ (if m ≤ k then [(i, [])] else []) := by
        by_cases cm : more most k = true
        · refine ⟨_, ?_, by rw [repW, if_pos cm]⟩
          rw [if_pos (show (most.all fun (x : Nat) => decide (k < x)) = true from cm)]
          exact kids (w i) _ (fun _ h => h) hs1
        · refine ⟨[], ?_, by rw [repW, if_neg cm]⟩
          rw [if_neg (show ¬ (most.all fun (x : Nat) => decide (k < x)) = true from cm)]
          exact Walked.refl
      obtain ⟨new, W, enew⟩ := mid
      generalize (if (most.all fun (x : Nat) => decide (k < x)) = true then (w i).foldl (fun (t : Been) (z : Nat × Caps) => if z.1 = i ∧ m ≤ k then t else loop w n m most f (k + 1) z.1 (z.2 ++ c) t) (s.1.setIfInBounds (keyOf n m most k i) true, s.2) else (s.1.setIfInBounds (keyOf n m most k i) true, s.2)) = s2 at W ⊢
      -- the place itself
      have fin : ∀ s3 : Been, s3.1 = s2.1 → Same s3.2.reverse (s.2.reverse ++ withC c (repW w m most (f + 1) k i)) → ((∀ e ∈ Ways.ends s.2, e ≤ n) → ∀ e ∈ Ways.ends s3.2, e ≤ n) → (∀ e ∈ Ways.ends s2.2, e ∈ Ways.ends s3.2) →
          Walked w n m most (keyOf n m most k i) s s3 (withC c (repW w m most (f + 1) k i)) := by
        intro s3 e1 htold hinn hmore
        have hend : ∀ e, e ∈ Ways.ends s3.2 ↔ e ∈ Ways.ends s.2 ∨ e ∈ Ways.ends (repW w m most (f + 1) k i) := fun e => by
          have := htold.ends e
          rw [ends_rev] at this
          rw [this, Ways.ends, List.map_append, List.mem_append]
          show e ∈ Ways.ends s.2.reverse ∨ e ∈ Ways.ends (withC c _) ↔ _
          rw [ends_rev, withC_ends]
        refine ⟨htold, fun q hq => ?_, fun q hq => ?_, hinn⟩
        · rw [e1]
          exact W.stays q (getD_stays hq)
        · rw [e1] at hq
          rcases W.done q hq with h | h
          · rcases getD_set h with h | h
            · exact .inl h
            · subst h
              refine .inr ⟨Nat.le_refl _, fun k' i' e hi' hk' hr => ?_⟩
              obtain ⟨hkk, rfl⟩ := key_inj hi' hi hk'
              exact (hend e).mpr (.inr (repW_complete hw (reach_kk hr k hkk.symm) (f + 1) hi hf))
          · exact .inr ⟨Nat.le_of_succ_le h.1, h.2.more hmore⟩
      by_cases cm : m ≤ k
      · rw [if_pos cm]
        rw [if_pos cm] at enew
        refine fin (s2.1, (i, c) :: s2.2) rfl ?_ ?_ ?_
        · rw [enew, withC_append, ← List.append_assoc, List.reverse_cons]
          refine W.told.append ?_
          show Same [(i, c)] [(i, [] ++ c)]
          exact Same.refl _
        · intro hin e he
          rcases List.mem_cons.mp he with he | he
          · have : e = i := he
            omega
          · exact W.inn hin e he
        · exact fun e he => List.mem_cons_of_mem _ he
      · rw [if_neg cm]
        rw [if_neg cm, List.append_nil] at enew
        refine fin s2 rfl ?_ (fun hin => W.inn hin) (fun e he => he)
        rw [enew]
        exact W.told
end
end Ways
end

section
open PatUtf PatWords
namespace Ways
/-! ## The tables tell the first ways of all -/
/-- **All ways** through a pattern from a place, in their order. -/
def allW (t : Text) : Pat → Nat → Ends
  | .nothing, i => [(i, [])]
  | .any, i => if i < t.length then [(i + 1, [])] else []
  | .cls neg l, i => match t[i]? with
    | some x => if (inSet l x != neg) = true then [(i + 1, [])] else []
    | none => []
  | .first, i => if i = 0 then [(i, [])] else []
  | .last, i => if i = t.length then [(i, [])] else []
  | .edge, i => if isEdge t i = true then [(i, [])] else []
  | .seq a b, i => (allW t a i).flatMap (glue (allW t b))
  | .alt a b, i => allW t a i ++ allW t b i
  | .rep a m n, i => repW (allW t a) m n (m + t.length + 2) 0 i
  | .cap n a, i => (allW t a i).map fun (z : Nat × Caps) => (z.1, (n, i, z.1) :: z.2)
theorem at_tableOf {n i : Nat} (f : Nat → Ends) (h : i ≤ n) : (tableOf n f).at_ i = f i := by
  unfold tableOf Table.at_
  rw [Array.getD_eq_getD_getElem?, List.getElem?_toArray, List.getElem?_map, List.getElem?_range (by omega)]
  rfl
theorem repW_le {w : Nat → Ends} {n m : Nat} {most : Option Nat} (hw : Fwd w n) {f k i : Nat} (hi : i ≤ n) : ∀ z ∈ repW w m most f k i, i ≤ z.1 ∧ z.1 ≤ n := fun z hz =>
  reach_le hw (repW_sound f k i z.1 (mem_ends.mpr ⟨z, hz, rfl⟩)) hi
theorem flat_le {n i : Nat} {l : Ends} {F : Nat → Ends} (hl : ∀ z ∈ l, i ≤ z.1 ∧ z.1 ≤ n) (hF : Fwd F n) : ∀ z ∈ l.flatMap (glue F), i ≤ z.1 ∧ z.1 ≤ n := fun z hz => by
  obtain ⟨y, hy, hz⟩ := List.mem_flatMap.mp hz
  obtain ⟨h1, h2⟩ := hl y hy
  unfold glue at hz
  obtain ⟨x, hx, rfl⟩ := List.mem_map.mp hz
  obtain ⟨h3, h4⟩ := hF y.1 h2 x hx
  exact ⟨Nat.le_trans h1 h3, h4⟩
theorem allW_fwd (t : Text) : ∀ p : Pat, Fwd (allW t p) t.length
  | .nothing, i, hi, z, hz => by
    rw [allW] at hz
    rw [List.mem_singleton.mp hz]
    exact ⟨Nat.le_refl _, hi⟩
  | .any, i, hi, z, hz => by
    rw [allW] at hz
    split at hz
    · rw [List.mem_singleton.mp hz]
      exact ⟨Nat.le_succ _, by assumption⟩
    · cases hz
  | .cls neg l, i, hi, z, hz => by
    rw [allW] at hz
    split at hz
    · rename_i x hx
      split at hz
      · rw [List.mem_singleton.mp hz]
        exact ⟨Nat.le_succ _, (List.getElem?_eq_some_iff.mp hx).1⟩
      · cases hz
    · cases hz
  | .first, i, hi, z, hz => by
    rw [allW] at hz
    split at hz
    · rw [List.mem_singleton.mp hz]
      exact ⟨Nat.le_refl _, hi⟩
    · cases hz
  | .last, i, hi, z, hz => by
    rw [allW] at hz
    split at hz
    · rw [List.mem_singleton.mp hz]
      exact ⟨Nat.le_refl _, hi⟩
    · cases hz
  | .edge, i, hi, z, hz => by
    rw [allW] at hz
    split at hz
    · rw [List.mem_singleton.mp hz]
      exact ⟨Nat.le_refl _, hi⟩
    · cases hz
  | .seq a b, i, hi, z, hz => by
    rw [allW] at hz
    exact flat_le (allW_fwd t a i hi) (allW_fwd t b) z hz
  | .alt a b, i, hi, z, hz => by
    rw [allW] at hz
    rcases List.mem_append.mp hz with h | h
    · exact allW_fwd t a i hi z h
    · exact allW_fwd t b i hi z h
  | .rep a m n, i, hi, z, hz => by
    rw [allW] at hz
    exact repW_le (allW_fwd t a) hi z hz
  | .cap n a, i, hi, z, hz => by
    rw [allW] at hz
    obtain ⟨y, hy, rfl⟩ := List.mem_map.mp hz
    exact allW_fwd t a i hi y hy
theorem ddS_filter (p : Nat → Bool) : ∀ (l : Ends) (s s' : List Nat), (∀ e, p e = true → (e ∈ s ↔ e ∈ s')) → ddS s (l.filter fun z => p z.1) = (ddS s' l).filter fun z => p z.1
  | [], _, _, _ => rfl
  | z :: l, s, s', h => by
    by_cases cp : p z.1 = true
    · rw [List.filter_cons_of_pos (by exact cp)]
      by_cases c : z.1 ∈ s
      · have e1 : ddS s (z :: l.filter fun z => p z.1) = ddS s (l.filter fun z => p z.1) := by rw [ddS, if_pos c]
        have e2 : ddS s' (z :: l) = ddS s' l := by rw [ddS, if_pos ((h _ cp).mp c)]
        rw [e1, e2]
        exact ddS_filter p l s s' h
      · have e1 : ddS s (z :: l.filter fun z => p z.1) = z :: ddS (z.1 :: s) (l.filter fun z => p z.1) := by rw [ddS, if_neg c]
        have e2 : ddS s' (z :: l) = z :: ddS (z.1 :: s') l := by rw [ddS, if_neg (fun x => c ((h _ cp).mpr x))]
        rw [e1, e2, List.filter_cons_of_pos (by exact cp)]
        congr 1
        refine ddS_filter p l _ _ fun e he => ?_
        simp only [List.mem_cons, h e he]
    · rw [List.filter_cons_of_neg (by exact cp)]
      by_cases c : z.1 ∈ s'
      · have e2 : ddS s' (z :: l) = ddS s' l := by rw [ddS, if_pos c]
        rw [e2]
        exact ddS_filter p l s s' h
      · have e2 : ddS s' (z :: l) = z :: ddS (z.1 :: s') l := by rw [ddS, if_neg c]
        rw [e2, List.filter_cons_of_neg (by exact cp)]
        refine ddS_filter p l _ _ fun e he => ?_
        rw [List.mem_cons, h e he]
        exact ⟨.inr, fun x => x.resolve_left fun y => cp (y ▸ he)⟩
theorem same_filter (p : Nat → Bool) {x y : Ends} (h : Same x y) : Same (x.filter fun z => p z.1) (y.filter fun z => p z.1) := fun s => by
  rw [ddS_filter p x s s (fun _ _ => Iff.rfl), ddS_filter p y s s (fun _ _ => Iff.rfl), h s]
/-- ways that are alike may stand for one another in a repetition -/
theorem repW_same {w w' : Nat → Ends} {n m : Nat} {most : Option Nat} (hw : Fwd w n) (hw' : Fwd w' n) (h : ∀ i ≤ n, Same (w i) (w' i)) : ∀ f k i, i ≤ n → Same (repW w m most f k i) (repW w' m most f k i)
  | 0, _, _, _ => Same.refl _
  | f + 1, k, i, hi => by
    unfold repW
    refine Same.append ?_ (Same.refl _)
    by_cases c : more most k = true
    · rw [if_pos c, if_pos c]
      -- only places of the text are met: elsewhere any ways will do
      have key : ∀ l : Ends, (∀ z ∈ l, z.1 ≤ n) → Same (l.flatMap (glue fun j => repW w m most f (k + 1) j)) (l.flatMap (glue fun j => repW w' m most f (k + 1) j)) := by
        intro l
        induction l with
        | nil => exact fun _ => Same.refl _
        | cons z l ih =>
          intro hl
          rw [List.flatMap_cons, List.flatMap_cons]
          refine Same.append ?_ (ih fun y hy => hl y (List.mem_cons_of_mem _ hy))
          exact (repW_same hw hw' h f (k + 1) z.1 (hl z (List.mem_cons_self ..))).map _ fun _ => rfl
      have e1 := key ((w i).filter fun z => !(decide (z.1 = i) && decide (m ≤ k))) (fun z hz => (hw i hi z (List.mem_filter.mp hz).1).2)
      refine e1.trans ?_
      have e2 : Same ((w i).filter fun z => !(decide (z.1 = i) && decide (m ≤ k))) ((w' i).filter fun z => !(decide (z.1 = i) && decide (m ≤ k))) := same_filter (fun e => !(decide (e = i) && decide (m ≤ k))) (h i hi)
      exact e2.flat fun _ => Same.refl _
    · rw [if_neg c, if_neg c]
      exact Same.refl _
theorem withC_nil (l : Ends) : withC [] l = l := by
  unfold withC
  have : (fun (y : Nat × Caps) => (y.1, y.2 ++ ([] : Caps))) = id := by
    funext y
    simp
  rw [this, List.map_id]
/-- **Each table tells, of each place, the first ways of all.** -/
theorem table_all (t : Text) : ∀ (p : Pat) (i : Nat), i ≤ t.length → (table t p).at_ i = dd (allW t p i)
  | .nothing, i, hi => by rw [table, at_tableOf _ hi, allW]; rfl
  | .any, i, hi => by
    rw [table, at_tableOf _ hi, allW]
    split <;> rfl
  | .cls neg l, i, hi => by
    rw [table, at_tableOf _ hi, allW]
    cases t[i]? with
    | none => rfl
    | some x =>
      dsimp only
      split <;> rfl
  | .first, i, hi => by
    rw [table, at_tableOf _ hi, allW]
    split <;> rfl
  | .last, i, hi => by
    rw [table, at_tableOf _ hi, allW]
    split <;> rfl
  | .edge, i, hi => by
    rw [table, at_tableOf _ hi, allW]
    split <;> rfl
  | .seq a b, i, hi => by
    rw [table]
    rw [at_tableOf _ hi, allW, table_all t a i hi]
    have hb : ∀ z ∈ dd (allW t a i), z.1 ≤ t.length := fun z hz => (allW_fwd t a i hi z (ddS_sub _ _ z hz)).2
    have e1 : ((dd (allW t a i)).flatMap fun (z : Nat × Caps) => ((table t b).at_ z.1).map fun (y : Nat × Caps) => (y.1, y.2 ++ z.2)) = (dd (allW t a i)).flatMap (glue fun j => dd (allW t b j)) := by
      have key : ∀ l : Ends, (∀ z ∈ l, z.1 ≤ t.length) → (l.flatMap fun (z : Nat × Caps) => ((table t b).at_ z.1).map fun (y : Nat × Caps) => (y.1, y.2 ++ z.2)) = l.flatMap (glue fun j => dd (allW t b j)) := by
        intro l
        induction l with
        | nil => exact fun _ => rfl
        | cons z l ih =>
          intro hl
          rw [List.flatMap_cons, List.flatMap_cons, ih fun y hy => hl y (List.mem_cons_of_mem _ hy), table_all t b z.1 (hl z (List.mem_cons_self ..))]
          rfl
      exact key _ hb
    rw [e1, firstEach_dd]
    · exact ((same_dd (allW t a i)).flat fun e => same_dd (allW t b e)) []
    · intro z hz
      obtain ⟨y, hy, hz⟩ := List.mem_flatMap.mp hz
      unfold glue at hz
      obtain ⟨x, hx, rfl⟩ := List.mem_map.mp hz
      exact (allW_fwd t b y.1 (hb y hy) x (ddS_sub _ _ x hx)).2
  | .alt a b, i, hi => by
    rw [table]
    rw [at_tableOf _ hi, allW, table_all t a i hi, table_all t b i hi, firstEach_dd]
    · exact ((same_dd (allW t a i)).append (same_dd (allW t b i))) []
    · intro z hz
      rcases List.mem_append.mp hz with h | h
      · exact (allW_fwd t a i hi z (ddS_sub _ _ z h)).2
      · exact (allW_fwd t b i hi z (ddS_sub _ _ z h)).2
  | .rep a m n, i, hi => by
    rw [table]
    rw [at_tableOf _ hi, allW]
    have hwf : Fwd (table t a).at_ t.length := fun j hj z hz => by
      rw [table_all t a j hj] at hz
      exact allW_fwd t a j hj z (ddS_sub _ _ z hz)
    have W := loop_walked (w := (table t a).at_) (n := t.length) (m := m) (most := n) hwf (m + t.length + 2) 0 i [] (Array.replicate ((max m (n.getD 0) + 2) * (t.length + 1)) false, []) hi (by omega) (fun q hq => by
      have : (Array.replicate ((max m (n.getD 0) + 2) * (t.length + 1)) false).getD q false = true := hq
      rw [Array.getD_eq_getD_getElem?, Array.getElem?_replicate] at this
      split at this <;> cases this)
    have hin := W.inn (fun e he => nomatch he)
    rw [firstEach_dd]
    · have h1 := W.told []
      refine h1.trans ?_
      show ddS [] ([] ++ withC [] _) = _
      rw [List.nil_append, withC_nil]
      exact repW_same hwf (allW_fwd t a) (fun j hj => by rw [table_all t a j hj]; exact same_dd _) _ 0 i hi []
    · intro z hz
      exact hin z.1 (ends_rev.mp (mem_ends.mpr ⟨z, hz, rfl⟩))
  | .cap n a, i, hi => by
    rw [table]
    rw [at_tableOf _ hi, allW, table_all t a i hi]
    exact (ddS_map (fun (z : Nat × Caps) => (z.1, (n, i, z.1) :: z.2)) (fun _ => rfl) (allW t a i) []).symm
end Ways
end

section
open PatUtf PatWords
namespace Ways
/-! # Ways that are alike: to each set of ends the same first one, with the same captures -/
theorem get_append (c d : Caps) (n : Name) : Caps.get (c ++ d) n = (Caps.get c n).or (Caps.get d n) := by
  unfold Caps.get
  rw [List.find?_append]
  cases c.find? (fun (x : Name × Nat × Nat) => x.1 == n) with
  | none => simp
  | some x => simp
theorem get_cons (m n : Name) (x : Nat × Nat) (c : Caps) : Caps.get ((m, x) :: c) n = if m = n then some x else Caps.get c n := by
  unfold Caps.get
  by_cases h : m = n
  · rw [if_pos h, List.find?_cons_of_pos (by simpa using h)]
    rfl
  · rw [if_neg h, List.find?_cons_of_neg (by simpa using h)]
/-- the first way to one of the ends -/
def fst (T : Nat → Bool) (l : Ends) : Option (Nat × Caps) := l.find? fun z => T z.1
def nrm (z : Nat × Caps) : Nat × (Name → Option (Nat × Nat)) := (z.1, fun n => Caps.get z.2 n)
def Eqv (x y : Ends) : Prop := ∀ T, (fst T x).map nrm = (fst T y).map nrm
theorem Eqv.refl (x : Ends) : Eqv x x := fun _ => rfl
theorem Eqv.of_eq {x y : Ends} (h : x = y) : Eqv x y := h ▸ Eqv.refl x
theorem Eqv.symm {x y : Ends} (h : Eqv x y) : Eqv y x := fun T => (h T).symm
theorem Eqv.trans {x y z : Ends} (h : Eqv x y) (k : Eqv y z) : Eqv x z := fun T => (h T).trans (k T)
theorem fst_append (T : Nat → Bool) (x y : Ends) : fst T (x ++ y) = (fst T x).or (fst T y) := List.find?_append ..
theorem Eqv.append {x x' y y' : Ends} (h : Eqv x x') (k : Eqv y y') : Eqv (x ++ y) (x' ++ y') := fun T => by
  rw [fst_append, fst_append]
  have h := h T
  have k := k T
  cases e : fst T x with
  | none =>
    rw [e] at h
    cases e' : fst T x' with
    | none => simpa using k
    | some z => rw [e'] at h; cases h
  | some z =>
    rw [e] at h
    cases e' : fst T x' with
    | none => rw [e'] at h; cases h
    | some z' => rw [e'] at h; simpa using h
theorem fst_some_of {T : Nat → Bool} {l : Ends} {z : Nat × Caps} (h : fst T l = some z) : z ∈ l ∧ T z.1 = true := ⟨List.mem_of_find?_eq_some h, List.find?_some (p := fun z : Nat × Caps => T z.1) h⟩
theorem fst_pos {T : Nat → Bool} {l : Ends} {z : Nat × Caps} (c : T z.1 = true) : fst T (z :: l) = some z := List.find?_cons_of_pos (p := fun z : Nat × Caps => T z.1) c
theorem fst_neg {T : Nat → Bool} {l : Ends} {z : Nat × Caps} (c : ¬ T z.1 = true) : fst T (z :: l) = fst T l := List.find?_cons_of_neg (p := fun z : Nat × Caps => T z.1) c
theorem nrm_1 {a b : Nat × Caps} (h : nrm a = nrm b) : a.1 = b.1 := congrArg (fun x => x.1) h
theorem nrm_2 {a b : Nat × Caps} (h : nrm a = nrm b) : (fun n => Caps.get a.2 n) = fun n => Caps.get b.2 n := congrArg (fun x => x.2) h
theorem nrm_eq {a b : Nat × Caps} (h1 : a.1 = b.1) (h2 : ∀ n, Caps.get a.2 n = Caps.get b.2 n) : nrm a = nrm b := by
  unfold nrm
  rw [h1]
  congr 1
  funext n
  exact h2 n
theorem fst_none_iff {T : Nat → Bool} {l : Ends} : fst T l = none ↔ ∀ z ∈ l, T z.1 = false := by
  unfold fst
  rw [List.find?_eq_none]
  simp
theorem fst_isSome {T : Nat → Bool} {l : Ends} : (fst T l).isSome = true ↔ ∃ z ∈ l, T z.1 = true := by
  unfold fst
  rw [List.find?_isSome]
theorem Eqv.ends {x y : Ends} (h : Eqv x y) (e : Nat) : e ∈ Ways.ends x ↔ e ∈ Ways.ends y := by
  have key : ∀ {x y : Ends}, Eqv x y → e ∈ Ways.ends x → e ∈ Ways.ends y := by
    intro x y h m
    obtain ⟨z, hz, rfl⟩ := mem_ends.mp m
    have h := h (fun k => k == z.1)
    have h1 : (fst (fun k => k == z.1) x).isSome = true := fst_isSome.mpr ⟨z, hz, beq_self_eq_true _⟩
    cases e1 : fst (fun k => k == z.1) x with
    | none => rw [e1] at h1; cases h1
    | some a =>
      rw [e1] at h
      cases e2 : fst (fun k => k == z.1) y with
      | none => rw [e2] at h; cases h
      | some b =>
        obtain ⟨hb, tb⟩ := fst_some_of e2
        exact mem_ends.mpr ⟨b, hb, beq_iff_eq.mp tb⟩
  exact ⟨key h, key h.symm⟩
theorem fst_map {T : Nat → Bool} (f : Nat × Caps → Nat × Caps) (hf : ∀ z, (f z).1 = z.1) : ∀ l : Ends, fst T (l.map f) = (fst T l).map f
  | [] => rfl
  | z :: l => by
    rw [List.map_cons]
    by_cases c : T z.1 = true
    · rw [fst_pos (by rw [hf]; exact c), fst_pos c]
      rfl
    · rw [fst_neg (by rw [hf]; exact c), fst_neg c]
      exact fst_map f hf l
/-- what comes first of ways, each followed by others -/
theorem fst_flat (T : Nat → Bool) (F : Nat → Ends) : ∀ l : Ends, fst T (l.flatMap (glue F)) = (fst (fun e => (fst T (F e)).isSome) l).bind fun z => (fst T (F z.1)).map fun y => (y.1, y.2 ++ z.2)
  | [] => rfl
  | z :: l => by
    rw [List.flatMap_cons, fst_append, fst_flat T F l]
    have e1 : fst T (glue F z) = (fst T (F z.1)).map fun y => (y.1, y.2 ++ z.2) := fst_map (fun y => (y.1, y.2 ++ z.2)) (fun _ => rfl) _
    rw [e1]
    by_cases c : (fst T (F z.1)).isSome = true
    · have e2 : fst (fun e => (fst T (F e)).isSome) (z :: l) = some z := fst_pos c
      rw [e2]
      cases e : fst T (F z.1) with
      | none => rw [e] at c; cases c
      | some y =>
        dsimp only [Option.bind]
        rw [e]
        rfl
    · have e2 : fst (fun e => (fst T (F e)).isSome) (z :: l) = fst (fun e => (fst T (F e)).isSome) l := fst_neg c
      rw [e2]
      cases e : fst T (F z.1) with
      | none => rfl
      | some y => rw [e] at c; exact absurd rfl c
theorem Eqv.glue {F F' : Nat → Ends} {z : Nat × Caps} (h : Eqv (F z.1) (F' z.1)) : Eqv (Ways.glue F z) (Ways.glue F' z) := fun T => by
  have e : ∀ G : Nat → Ends, fst T (Ways.glue G z) = (fst T (G z.1)).map fun y => (y.1, y.2 ++ z.2) := fun G => fst_map (fun y => (y.1, y.2 ++ z.2)) (fun _ => rfl) _
  rw [e, e]
  have h := h T
  cases e1 : fst T (F z.1) with
  | none =>
    rw [e1] at h
    cases e2 : fst T (F' z.1) with
    | none => rfl
    | some b => rw [e2] at h; cases h
  | some a =>
    rw [e1] at h
    cases e2 : fst T (F' z.1) with
    | none => rw [e2] at h; cases h
    | some b =>
      rw [e2] at h
      have h : nrm a = nrm b := Option.some.inj h
      show some (nrm (a.1, a.2 ++ z.2)) = some (nrm (b.1, b.2 ++ z.2))
      have h1 : a.1 = b.1 := nrm_1 h
      have h2 : (fun n => Caps.get a.2 n) = fun n => Caps.get b.2 n := nrm_2 h
      exact congrArg some (nrm_eq h1 fun n => by rw [get_append, get_append, congrFun h2 n])
theorem Eqv.flat_right {F F' : Nat → Ends} : ∀ l : Ends, (∀ z ∈ l, Eqv (F z.1) (F' z.1)) → Eqv (l.flatMap (Ways.glue F)) (l.flatMap (Ways.glue F'))
  | [], _ => Eqv.refl _
  | z :: l, h => by
    rw [List.flatMap_cons, List.flatMap_cons]
    exact (Eqv.glue (h z (List.mem_cons_self ..))).append (Eqv.flat_right l fun y m => h y (List.mem_cons_of_mem _ m))
theorem Eqv.flat_left {l l' : Ends} (F : Nat → Ends) (h : Eqv l l') : Eqv (l.flatMap (Ways.glue F)) (l'.flatMap (Ways.glue F)) := fun T => by
  rw [fst_flat, fst_flat]
  have h := h (fun e => (fst T (F e)).isSome)
  cases e1 : fst (fun e => (fst T (F e)).isSome) l with
  | none =>
    rw [e1] at h
    cases e2 : fst (fun e => (fst T (F e)).isSome) l' with
    | none => rfl
    | some b => rw [e2] at h; cases h
  | some a =>
    rw [e1] at h
    cases e2 : fst (fun e => (fst T (F e)).isSome) l' with
    | none => rw [e2] at h; cases h
    | some b =>
      rw [e2] at h
      have h : nrm a = nrm b := Option.some.inj h
      have h1 : a.1 = b.1 := nrm_1 h
      have h2 : (fun n => Caps.get a.2 n) = fun n => Caps.get b.2 n := nrm_2 h
      dsimp only [Option.bind]
      rw [h1]
      cases fst T (F b.1) with
      | none => rfl
      | some y =>
        show some (nrm (y.1, y.2 ++ a.2)) = some (nrm (y.1, y.2 ++ b.2))
        exact congrArg some (nrm_eq rfl fun n => by rw [get_append, get_append, congrFun h2 n])
theorem Eqv.flat {l l' : Ends} {F F' : Nat → Ends} (hl : Eqv l l') (h : ∀ z ∈ l', Eqv (F z.1) (F' z.1)) : Eqv (l.flatMap (Ways.glue F)) (l'.flatMap (Ways.glue F')) :=
  (Eqv.flat_left F hl).trans (Eqv.flat_right l' h)
theorem Eqv.filter (P : Nat → Bool) {x y : Ends} (h : Eqv x y) : Eqv (x.filter fun z => P z.1) (y.filter fun z => P z.1) := fun T => by
  have e : ∀ l : Ends, fst T (l.filter fun z => P z.1) = fst (fun k => P k && T k) l := fun l => by
    induction l with
    | nil => rfl
    | cons z l ih =>
      by_cases c : P z.1 = true
      · rw [List.filter_cons_of_pos (by exact c)]
        by_cases d : T z.1 = true
        · rw [fst_pos d, fst_pos (by rw [c, d]; rfl)]
        · rw [fst_neg d, fst_neg (by rw [c, Bool.true_and]; exact d), ih]
      · rw [List.filter_cons_of_neg (by exact c), fst_neg (by intro h; exact c (Bool.and_eq_true_iff.mp h).1), ih]
  rw [e, e]
  exact h _
theorem Eqv.cap (n : Name) (i : Nat) {x y : Ends} (h : Eqv x y) : Eqv (x.map fun z => (z.1, (n, i, z.1) :: z.2)) (y.map fun z => (z.1, (n, i, z.1) :: z.2)) := fun T => by
  rw [fst_map (fun z => (z.1, (n, i, z.1) :: z.2)) (fun _ => rfl), fst_map (fun z => (z.1, (n, i, z.1) :: z.2)) (fun _ => rfl)]
  have h := h T
  cases e1 : fst T x with
  | none =>
    rw [e1] at h
    cases e2 : fst T y with
    | none => rfl
    | some b => rw [e2] at h; cases h
  | some a =>
    rw [e1] at h
    cases e2 : fst T y with
    | none => rw [e2] at h; cases h
    | some b =>
      rw [e2] at h
      have h : nrm a = nrm b := Option.some.inj h
      have h1 : a.1 = b.1 := nrm_1 h
      have h2 : (fun n => Caps.get a.2 n) = fun n => Caps.get b.2 n := nrm_2 h
      show some (nrm (a.1, (n, i, a.1) :: a.2)) = some (nrm (b.1, (n, i, b.1) :: b.2))
      rw [h1]
      exact congrArg some (nrm_eq rfl fun m => by rw [get_cons, get_cons, congrFun h2 m])
theorem repW_eqv {w w' : Nat → Ends} {n m : Nat} {most : Option Nat} (hw' : Fwd w' n) (h : ∀ i, i ≤ n → Eqv (w i) (w' i)) : ∀ f k i, i ≤ n → Eqv (repW w m most f k i) (repW w' m most f k i)
  | 0, _, _, _ => Eqv.refl _
  | f + 1, k, i, hi => by
    unfold repW
    refine Eqv.append ?_ (Eqv.refl _)
    by_cases c : more most k = true
    · rw [if_pos c, if_pos c]
      refine Eqv.flat ((h i hi).filter fun e => !(decide (e = i) && decide (m ≤ k))) fun z hz => ?_
      exact repW_eqv hw' h f (k + 1) z.1 (hw' i hi z (List.mem_filter.mp hz).1).2
    · rw [if_neg c, if_neg c]
      exact Eqv.refl _
/-! ## Bodies that stay where they are -/
theorem rep_stays {w : Nat → Ends} {m : Nat} {most : Option Nat} {i : Nat} (h : ∀ z ∈ w i, z.1 = i) : ∀ f k, ∀ z ∈ repW w m most f k i, z.1 = i
  | 0, _, z, hz => by cases hz
  | f + 1, k, z, hz => by
    unfold repW at hz
    rcases List.mem_append.mp hz with hz | hz
    · split at hz
      · obtain ⟨y, hy, hz⟩ := List.mem_flatMap.mp hz
        have ey := h y (List.mem_filter.mp hy).1
        unfold glue at hz
        obtain ⟨x, hx, rfl⟩ := List.mem_map.mp hz
        rw [ey] at hx
        exact rep_stays h f (k + 1) x hx
      · cases hz
    · split at hz
      · rw [List.mem_singleton.mp hz]
      · cases hz
theorem zero_stays (t : Text) : ∀ (p : Pat), p.size = 0 → ∀ i, ∀ z ∈ allW t p i, z.1 = i
  | .nothing, _, i, z, hz => by
    rw [allW] at hz
    rw [List.mem_singleton.mp hz]
  | .any, h, _, _, _ => by cases h
  | .cls _ _, h, _, _, _ => by cases h
  | .first, h, _, _, _ => by cases h
  | .last, h, _, _, _ => by cases h
  | .edge, h, _, _, _ => by cases h
  | .seq a b, h, i, z, hz => by
    have h : a.size + b.size = 0 := h
    rw [allW] at hz
    obtain ⟨y, hy, hz⟩ := List.mem_flatMap.mp hz
    have ey := zero_stays t a (by omega) i y hy
    unfold glue at hz
    obtain ⟨x, hx, rfl⟩ := List.mem_map.mp hz
    rw [ey] at hx
    exact zero_stays t b (by omega) i x hx
  | .alt a b, h, i, z, hz => by
    have h : a.size + b.size = 0 := h
    rw [allW] at hz
    rcases List.mem_append.mp hz with hz | hz
    · exact zero_stays t a (by omega) i z hz
    · exact zero_stays t b (by omega) i z hz
  | .cap n a, h, i, z, hz => by
    have h : a.size = 0 := h
    rw [allW] at hz
    obtain ⟨x, hx, rfl⟩ := List.mem_map.mp hz
    exact zero_stays t a h i x hx
  | .rep a m n, h, i, z, hz => by
    rw [allW] at hz
    cases n with
    | none =>
      have h : max m 1 * a.size = 0 := h
      have ha : a.size = 0 := (Nat.mul_eq_zero.mp h).resolve_left (by omega)
      exact rep_stays (zero_stays t a ha i) _ _ z hz
    | some n =>
      have h : n * a.size = 0 := h
      rcases Nat.mul_eq_zero.mp h with hn | ha
      · subst hn
        unfold repW at hz
        rcases List.mem_append.mp hz with hz | hz
        · rw [if_neg (by simp [more])] at hz
          cases hz
        · split at hz
          · rw [List.mem_singleton.mp hz]
          · cases hz
      · exact rep_stays (zero_stays t a ha i) _ _ z hz
theorem flat_nil (l : Ends) : l.flatMap (glue fun j => [(j, [])]) = l := by
  induction l with
  | nil => rfl
  | cons z l ih =>
    rw [List.flatMap_cons, ih]
    show [(z.1, [] ++ z.2)] ++ l = z :: l
    rw [List.nil_append]
    rfl
/-- such a body so many times is such a body once -/
theorem rep_zero {w : Nat → Ends} {m : Nat} {most : Option Nat} {i : Nat} (h : ∀ z ∈ w i, z.1 = i) (hmost : ∀ n, most = some n → m ≤ n) {f f' : Nat} (hf : m + 2 ≤ f) (hf' : 3 ≤ f') :
    Eqv (repW w (min m 1) (some 1) f' 0 i) (repW w m most f 0 i) := by
  have stop : ∀ (f k : Nat), 1 ≤ f → m ≤ k → repW w m most f k i = [(i, [])] := by
    intro f k h1 hk
    obtain ⟨f, rfl⟩ : ∃ g, f = g + 1 := ⟨f - 1, by omega⟩
    unfold repW
    have e : (w i).filter (fun z => !(decide (z.1 = i) && decide (m ≤ k))) = [] := by
      rw [List.filter_eq_nil_iff]
      intro z hz
      rw [decide_eq_true (h z hz), decide_eq_true hk]
      decide
    rw [e, if_pos hk]
    split <;> rfl
  by_cases hm : m = 0
  · subst hm
    rw [stop f 0 (by omega) (Nat.le_refl _)]
    obtain ⟨f', rfl⟩ : ∃ g, f' = g + 1 := ⟨f' - 1, by omega⟩
    unfold repW
    have e : (w i).filter (fun z => !(decide (z.1 = i) && decide (min 0 1 ≤ 0))) = [] := by
      rw [List.filter_eq_nil_iff]
      intro z hz
      rw [decide_eq_true (h z hz)]
      decide
    rw [e]
    exact Eqv.refl _
  · have e0 : min m 1 = 1 := by omega
    rw [e0]
    have once : repW w 1 (some 1) f' 0 i = w i := by
      obtain ⟨f', rfl⟩ : ∃ g, f' = g + 2 := ⟨f' - 2, by omega⟩
      have e1 : repW w 1 (some 1) (f' + 2) 0 i = (w i).flatMap (glue fun j => repW w 1 (some 1) (f' + 1) 1 j) := by
        rw [repW, if_pos (by rfl), if_neg (by decide), List.append_nil]
        congr 1
        rw [List.filter_eq_self]
        intro z _
        simp
      rw [e1]
      have e2 : (fun j => repW w 1 (some 1) (f' + 1) 1 j) = fun j => [(j, [])] := by
        funext j
        rw [repW, if_neg (by decide), if_pos (by decide)]
        rfl
      rw [e2, flat_nil]
    rw [once]
    -- from k times on, one less than m at least: the first way is the body's first
    have key : ∀ d k f, k + d + 1 = m → d + 2 ≤ f → Eqv (w i) (repW w m most f k i) := by
      intro d
      induction d with
      | zero =>
        intro k f hk hf
        obtain ⟨f, rfl⟩ : ∃ g, f = g + 1 := ⟨f - 1, by omega⟩
        unfold repW
        have hmore : more most k = true := by
          unfold more
          cases hh : most with
          | none => rfl
          | some n => exact decide_eq_true (by have := hmost n hh; omega)
        rw [if_pos hmore, if_neg (by omega), List.append_nil]
        have e : (w i).filter (fun z => !(decide (z.1 = i) && decide (m ≤ k))) = w i := by
          rw [List.filter_eq_self]
          intro z _
          rw [decide_eq_false (by omega : ¬ m ≤ k), Bool.and_false]
          rfl
        rw [e]
        have e2 : Eqv ((w i).flatMap (glue fun j => [(j, [])])) ((w i).flatMap (glue fun j => repW w m most f (k + 1) j)) := Eqv.flat_right _ fun z hz => by
          rw [h z hz, stop f (k + 1) (by omega) (by omega)]
          exact Eqv.refl _
        rw [flat_nil] at e2
        exact e2
      | succ d ih =>
        intro k f hk hf
        obtain ⟨f, rfl⟩ : ∃ g, f = g + 1 := ⟨f - 1, by omega⟩
        unfold repW
        have hmore : more most k = true := by
          unfold more
          cases hh : most with
          | none => rfl
          | some n => exact decide_eq_true (by have := hmost n hh; omega)
        rw [if_pos hmore, if_neg (by omega), List.append_nil]
        have e : (w i).filter (fun z => !(decide (z.1 = i) && decide (m ≤ k))) = w i := by
          rw [List.filter_eq_self]
          intro z _
          rw [decide_eq_false (by omega : ¬ m ≤ k), Bool.and_false]
          rfl
        rw [e]
        have ih := ih (k + 1) f (by omega) (by omega)
        have e2 : Eqv ((w i).flatMap (glue w)) ((w i).flatMap (glue fun j => repW w m most f (k + 1) j)) := Eqv.flat_right _ fun z hz => by
          rw [h z hz]
          exact ih
        refine Eqv.trans ?_ e2
        intro T
        rw [fst_flat]
        cases e3 : fst T (w i) with
        | none =>
          have : fst (fun e => (fst T (w e)).isSome) (w i) = none := fst_none_iff.mpr fun z hz => by rw [h z hz, e3]; rfl
          rw [this]
          rfl
        | some z =>
          obtain ⟨hz, tz⟩ := fst_some_of e3
          have hT : T i = true := by rw [← h z hz]; exact tz
          have e4 : ∀ l : Ends, (∀ y ∈ l, y.1 = i) → fst (fun e => (fst T (w e)).isSome) l = fst T l := by
            intro l
            induction l with
            | nil => intro _; rfl
            | cons y l ih =>
              intro hl
              have ey := hl y (List.mem_cons_self ..)
              rw [fst_pos (by rw [ey, e3]; rfl), fst_pos (by rw [ey]; exact hT)]
          rw [e4 _ h, e3]
          dsimp only [Option.bind]
          rw [h z hz, e3]
          refine congrArg some (nrm_eq rfl fun n => ?_)
          dsimp only
          rw [get_append]
          cases Caps.get z.2 n with
          | none => rfl
          | some x => rfl
    exact key (m - 1) 0 f (by omega) (by omega)
/-! ## Ways of a part -/
abbrev WF := Text → Nat → Ends
/-- a text's values -/
def Val (t : Text) : Prop := ∀ x ∈ t, x ≤ 1114111
def FwdW (w : WF) : Prop := ∀ t, Fwd (w t) t.length
def FitsW (w : WF) (p : Pat) : Prop := ∀ t, Val t → ∀ i, i ≤ t.length → Eqv (w t i) (allW t p i)
def oneWF (l : List (Nat × Nat)) (neg : Bool) : WF := fun t i => match t[i]? with
  | some x => if (inSet l x != neg) = true then [(i + 1, [])] else []
  | none => []
def seqsWF : List WF → WF
  | [] => fun _ i => [(i, [])]
  | w :: ws => fun t i => (w t i).flatMap (glue (seqsWF ws t))
def altsWF (ws : List WF) : WF := fun t i => ws.flatMap fun w => w t i
def repWF (w : WF) (m : Nat) (n : Option Nat) : WF := fun t i => repW (w t) m n (m + t.length + 2) 0 i
def capWF (n : Name) (w : WF) : WF := fun t i => (w t i).map fun z => (z.1, (n, i, z.1) :: z.2)
theorem fwd_one (l : List (Nat × Nat)) (neg : Bool) : FwdW (oneWF l neg) := fun t i hi z hz => by
  unfold oneWF at hz
  split at hz
  · rename_i x hx
    split at hz
    · rw [List.mem_singleton.mp hz]
      exact ⟨Nat.le_succ _, (List.getElem?_eq_some_iff.mp hx).1⟩
    · cases hz
  · cases hz
theorem fwd_seqs : ∀ {ws : List WF}, (∀ w ∈ ws, FwdW w) → FwdW (seqsWF ws)
  | [], _, t, i, hi, z, hz => by
    rw [List.mem_singleton.mp hz]
    exact ⟨Nat.le_refl _, hi⟩
  | w :: ws, h, t, i, hi, z, hz =>
    flat_le (h w (List.mem_cons_self ..) t i hi) (fwd_seqs (fun v m => h v (List.mem_cons_of_mem _ m)) t) z hz
theorem fwd_alts {ws : List WF} (h : ∀ w ∈ ws, FwdW w) : FwdW (altsWF ws) := fun t i hi z hz => by
  obtain ⟨w, hw, hz⟩ := List.mem_flatMap.mp hz
  exact h w hw t i hi z hz
theorem fwd_rep {w : WF} {m : Nat} {n : Option Nat} (h : FwdW w) : FwdW (repWF w m n) := fun t i hi z hz => repW_le (h t) hi z hz
theorem fwd_cap {n : Name} {w : WF} (h : FwdW w) : FwdW (capWF n w) := fun t i hi z hz => by
  obtain ⟨y, hy, rfl⟩ := List.mem_map.mp hz
  exact h t i hi y hy
theorem fits_cls {l l' : List (Nat × Nat)} {neg : Bool} (h : ∀ x, inSet l x = inSet l' x) : FitsW (oneWF l neg) (.cls neg l') := fun t _ i _ => by
  refine Eqv.of_eq ?_
  unfold oneWF
  rw [allW]
  cases t[i]? with
  | none => rfl
  | some x => dsimp only; rw [h x]
theorem fits_any : FitsW (oneWF [(0, 1114111)] false) .any := fun t ht i _ => by
  refine Eqv.of_eq ?_
  unfold oneWF
  rw [allW]
  cases e : t[i]? with
  | none =>
    rw [if_neg (fun h => by rw [List.getElem?_eq_getElem h] at e; cases e)]
  | some x =>
    have hx := ht x (List.mem_of_getElem? e)
    have h1 : (inSet [(0, 1114111)] x != false) = true := by
      unfold inSet
      simp only [List.any_cons, List.any_nil, Bool.or_false, Nat.zero_le, decide_true, Bool.true_and]
      rw [decide_eq_true hx]
      rfl
    dsimp only
    rw [if_pos h1, if_pos (List.getElem?_eq_some_iff.mp e).1]
/-- part for part -/
def FitAll : List WF → List Pat → Prop
  | [], [] => True
  | w :: ws, p :: ps => FitsW w p ∧ FitAll ws ps
  | _, _ => False
theorem fits_seqs : ∀ {ws : List WF} {ps : List Pat}, FitAll ws ps → FitsW (seqsWF ws) (Mach.seqs ps)
  | [], [], _, t, _, i, _ => Eqv.refl _
  | [], _ :: _, h, _, _, _, _ => h.elim
  | _ :: _, [], h, _, _, _, _ => h.elim
  | w :: ws, p :: ps, ⟨h1, h2⟩, t, ht, i, hi => by
    show Eqv _ (allW t (.seq p (Mach.seqs ps)) i)
    rw [allW]
    refine Eqv.flat (h1 t ht i hi) fun z hz => ?_
    exact fits_seqs h2 t ht z.1 (allW_fwd t p i hi z hz).2
theorem fits_seq1 {w : WF} {p : Pat} (h : FitsW w p) : FitsW w (Mach.seqs [p]) := fun t ht i hi => by
  have e : allW t (Mach.seqs [p]) i = allW t p i := by
    show allW t (.seq p .nothing) i = _
    rw [allW]
    have : allW t .nothing = fun j => [(j, [])] := by funext j; rw [allW]
    rw [this, flat_nil]
  rw [e]
  exact h t ht i hi
theorem fits_alts : ∀ {ws : List WF} {ps : List Pat}, FitAll ws ps → ws ≠ [] → FitsW (altsWF ws) (Mach.alts ps)
  | [], _, _, hn, _, _, _, _ => absurd rfl hn
  | _ :: _, [], h, _, _, _, _, _ => h.elim
  | [w], [p], ⟨h1, _⟩, _, t, ht, i, hi => by
    have e : altsWF [w] t i = w t i := by unfold altsWF; simp
    rw [e]
    exact h1 t ht i hi
  | [w], p :: q :: ps, ⟨_, h2⟩, _, _, _, _, _ => h2.elim
  | w :: v :: ws, [p], ⟨_, h2⟩, _, _, _, _, _ => h2.elim
  | w :: v :: ws, p :: q :: ps, ⟨h1, h2⟩, _, t, ht, i, hi => by
    show Eqv _ (allW t (.alt p (Mach.alts (q :: ps))) i)
    rw [allW]
    exact (h1 t ht i hi).append (fits_alts h2 (List.cons_ne_nil _ _) t ht i hi)
theorem fits_rep {w : WF} {p : Pat} {m : Nat} {n : Option Nat} (h : FitsW w p) : FitsW (repWF w m n) (.rep p m n) := fun t ht i hi => by
  rw [allW]
  exact repW_eqv (allW_fwd t p) (fun j hj => h t ht j hj) _ 0 i hi
theorem fits_rep0 {w : WF} {p : Pat} {m : Nat} {n : Option Nat} (h : FitsW w p) (h0 : p.size = 0) (hn : ∀ k, n = some k → m ≤ k) : FitsW (repWF w (min m 1) (some 1)) (.rep p m n) := fun t ht i hi => by
  rw [allW]
  unfold repWF
  refine (repW_eqv (allW_fwd t p) (fun j hj => h t ht j hj) _ 0 i hi).trans ?_
  -- as many steps as there can be: more of them change nothing
  have hs := zero_stays t p h0 i
  by_cases hm : min m 1 + t.length + 2 < 3
  · have e : m = 0 := by omega
    subst e
    have e2 : ∀ (mo : Option Nat) (f : Nat), repW (allW t p) 0 mo (f + 1) 0 i = [(i, [])] := fun mo f => by
      unfold repW
      have e : (allW t p i).filter (fun z => !(decide (z.1 = i) && decide (0 ≤ 0))) = [] := by
        rw [List.filter_eq_nil_iff]
        intro z hz
        rw [decide_eq_true (hs z hz)]
        decide
      rw [e]
      split <;> rfl
    rw [show min 0 1 = 0 from rfl, e2, e2]
    exact Eqv.refl _
  · exact rep_zero hs hn (by omega) (by omega)
theorem fits_cap {w : WF} {p : Pat} {n : Name} (h : FitsW w p) : FitsW (capWF n w) (.cap n p) := fun t ht i hi => by
  rw [allW]
  exact (h t ht i hi).cap n i
end Ways
end

section
namespace Pat
open PySem PySem.Spec PyProof.Rows L2
open PySem.FaultX (FaultTxt)
/-! ### small things -/
theorem if_true_of {c : Bool} {A B : Prop} (hc : c = true) (h : A) : if c = true then A else B := by
  rw [if_pos hc]
  exact h
theorem if_false_of {c : Bool} {A B : Prop} (hc : c = false) (h : B) : if c = true then A else B := by
  rw [hc, if_neg Bool.false_ne_true]
  exact h
theorem lk_here {k : Str} {v : V} {r : List (Str × V)} : List.lookup k ((k, v) :: r) = some v := by
  have e : (k == k) = true := beq_self_eq_true k
  simp only [List.lookup, e]
theorem lk_past {k g : Str} {v : V} {r : List (Str × V)} (h : (k == g) = false) : List.lookup k ((g, v) :: r) = List.lookup k r := by
  simp only [List.lookup, h]
theorem put_here {f : Str} {v x : V} {r : List (Str × V)} : putF f v ((f, x) :: r) = (f, v) :: r := if_pos rfl
theorem put_past {f g : Str} {v x : V} {r : List (Str × V)} (h : ¬ g = f) : putF f v ((g, x) :: r) = (g, x) :: putF f v r := if_neg h
/-- all but what stands at a is as it was -/
def Kept (H H' : Hp) (a : Addr) : Prop := ∀ b o, H b = some o → b ≠ a → H' b = some o
theorem Kept.refl (H : Hp) (a : Addr) : Kept H H a := fun _ _ h _ => h
theorem Kept.of_same {H H' : Hp} {a : Addr} (s : Same H H') : Kept H H' a := fun b o h _ => s b o h
theorem Kept.trans {H H1 H2 : Hp} {a : Addr} (x : Kept H H1 a) (y : Kept H1 H2 a) : Kept H H2 a := fun b o h n => y b o (x b o h n) n
theorem Kept.upd {H : Hp} {a : Addr} {o : HO} : Kept H (upd H a o) a := fun b u h n => by
  rw [upd_ne n]
  exact h
theorem Same.upd {H : Hp} {d : Addr} {o : HO} (h : H d = none) : Same H (upd H d o) := fun b u e => by
  rw [upd_ne (ne_of_none e h)]
  exact e
/-! ### the reader -/
/-- its fields -/
def rF (ag : Addr) (p : Nat) (an ab : Addr) : List (Str × V) := [("given", .ref ag), ("place", .int p), ("names", .ref an), ("brackets", .ref ab)]
theorem rF_given {ag p an ab} : (rF ag p an ab).lookup ("given" : Str) = some (.ref ag) := lk_here
theorem rF_place {ag p an ab} : (rF ag p an ab).lookup ("place" : Str) = some (.int (p : Nat)) := (lk_past (by decide +kernel)).trans lk_here
theorem rF_names {ag p an ab} : (rF ag p an ab).lookup ("names" : Str) = some (.ref an) := (lk_past (by decide +kernel)).trans ((lk_past (by decide +kernel)).trans lk_here)
theorem rF_brackets {ag p an ab} : (rF ag p an ab).lookup ("brackets" : Str) = some (.ref ab) := (lk_past (by decide +kernel)).trans ((lk_past (by decide +kernel)).trans ((lk_past (by decide +kernel)).trans lk_here))
theorem rF_no {m : Str} {ag p an ab} (h : (m == ("given" : Str)) = false ∧ (m == ("place" : Str)) = false ∧ (m == ("names" : Str)) = false ∧ (m == ("brackets" : Str)) = false) : (rF ag p an ab).lookup m = none :=
  (lk_past h.1).trans ((lk_past h.2.1).trans ((lk_past h.2.2.1).trans ((lk_past h.2.2.2).trans rfl)))
theorem rF_put {ag an ab} {p q : Nat} : putF "place" (.int (q : Nat)) (rF ag p an ab) = rF ag q an ab := (put_past (by decide +kernel)).trans (congrArg _ put_here)
def RAt (C : Addr) (H : Hp) (a dx ag : Addr) (p : Nat) (an ab : Addr) : Prop := H a = some (.ins C dx (rF ag p an ab))
/-- the bytes as they are given -/
def gv (g : List UInt8) : List V := g.map fun c => V.int (c.toNat : Nat)
theorem gv_len (g : List UInt8) : (gv g).length = g.length := List.length_map _
theorem gv_at {g : List UInt8} {p : Nat} {c : UInt8} (h : g[p]? = some c) : atI (gv g) ((p : Nat) : Int) = some (V.int (c.toNat : Nat)) := atI_nat (by rw [gv, List.getElem?_map, h]; rfl)
theorem seq_kept {K : PySem.W.Frag} {H H' : Hp} {a ag dx C : Addr} {fs : List (Str × V)} {xs : List V} (h : SqL K H ag xs) (e : H a = some (.ins C dx fs)) (k : Kept H H' a) : SqL K H' ag xs := by
  rcases h with (h | ⟨o, h⟩) | h
  · exact .inl (.inl (k _ _ h (ne_of h e (by intro z; cases z))))
  · exact .inl (.inr ⟨o, k _ _ h (ne_of h e (by intro z; cases z))⟩)
  · exact .inr h
/-- a fault's way out -/
def Out (CF : Addr) (e : PatUtf.Fault) (E : XK) : Prop := ∀ (d : Addr) (H' : Hp), H' d = some (.xd (faultF (.int (e.kind : Nat)) (.int (e.place : Nat)))) → E (.ref CF) (some d) H'
/-- codes of a text's signs -/
def cds (z : Str) : List Nat := z.cps.toList
/-! ### what the top has written -/
structure Txt (K : PySem.W.Frag) (mg : Str → Option Value) (C CF fI : Addr) : Prop where
  ft : FaultTxt K mg CF fI
  cl : Cls K C
  nG : NoAttr K C "given"
  nP : NoAttr K C "place"
  nN : NoAttr K C "names"
  nB : NoAttr K C "brackets"
  len : mg "len" = none
  ord : mg "ord" = none
  k1 : ∃ t, mg "ENDS_TOO_SOON" = some (.int 1 t)
  k2 : ∃ t, mg "CANNOT_STAND" = some (.int 2 t)
theorem pe_gi {X : Cx} {x : Str} {i : Int} {pos : Pos} (h : ∃ t, X.mg x = some (.int i t)) (hg : Gl X x := by rfl) (hd : (x == ("__debug__" : Str)) = false := by decide) : PE X (.Name x pos) (tC (.int i)) := by
  obtain ⟨t, h⟩ := h
  exact pe_glob hg h ⟨t, rfl⟩ hd
/-! ### the text -/
def top (i : Nat) : Stmt := PySem.Challenge.pw_toldpatterns_s01_judge.main.body.getD i (.Pass ⟨0, 0, 0, 0⟩)
abbrev sR (j : Nat) : Stmt := inClass (top i_Reader) j
def rLt : R2 := rI0 fun i j => .bl (decide (i < j))
end Pat
end

section
namespace Pat
open PySem PySem.Spec PyProof.Rows L2
section
variable {P : Program} {w : World} {K : PySem.W.Frag} {mg : Str → Option Value} {base : Heap} {C CF fI : Addr}
/-! ### need_byte -/
@[irreducible] def spNeed (K : PySem.W.Frag) (C CF : Addr) : Sp := fun vs H Q E => ∃ (a dx ag : Addr) (p : Nat) (an ab : Addr) (g : List UInt8), vs = [.ref a] ∧ RAt C H a dx ag p an ab ∧ SqL K H ag (gv g) ∧
  (p = g.length → Out CF ⟨1, p⟩ E) ∧ (p ≠ g.length → Q .non H)
theorem scNeed : FnScope ["self"] ["self"] (defScope (sR 1)) := ⟨rfl, rfl, rfl, by decide +kernel, rfl, by decide +kernel, by decide +kernel⟩
theorem ok_need {f : Addr} {fd : FuncData} (F : Fun K "need_byte" "Reader.need_byte" (sR 1) f fd) (T : Txt K mg C CF fI) : FnOk P w K mg base (L2N.CX P w) 2 f fd ["self"] (spNeed K C CF) := by
  refine F.okN scNeed (fun vs H Q E h => ?_) (fun cdv A outer s H vs Q E hr h => ⟨_, pss_one (ps_if (pt_cmpR op_eq (pe_fld (pv 0) rfl) (pe_callB call_len_seq (by rfl) T.len PySem.boot_len (pa_cons (pe_fld (pv 0) rfl) pa_nil)) (nomark _))
      (pss_one (ps_raiseFault rfl T.ft hr (L2N.takes_of rfl rfl rfl rfl) (by exact (pa_cons (pe_gi T.k1) (pa_cons (pe_fld (pv 0) rfl) pa_nil))))) pss_nil), ?_⟩)
  · unfold spNeed at h
    obtain ⟨_, _, _, _, _, _, _, rfl, _⟩ := h
    rfl
  · unfold spNeed at h
    obtain ⟨a, dx, ag, p, an, ab, g, rfl, r, sq, h1, h2⟩ := h
    refine ⟨_, rfl, a, C, dx, _, _, rfl, r, T.cl, T.nP, rF_place, _, rfl, a, C, dx, _, _, rfl, r, T.cl, T.nG, rF_given, ag, _, rfl, .inl sq, ?_⟩
    refine ⟨rfl, _, rfl, ?_⟩
    by_cases c : p = g.length
    · refine if_true_of (by rw [gv_len, c]; exact decide_eq_true rfl) ?_
      exact ⟨_, rfl, a, C, dx, _, _, rfl, r, T.cl, T.nP, rF_place, _, _, rfl, fun d hd => h1 c d _ upd_same⟩
    · refine if_false_of (decide_eq_false fun e => c ?_) (h2 c)
      rw [gv_len] at e
      injection e with e
      omega
/-! ### at -/
/-- whether the byte at p is one of these signs -/
def isAt (g : List UInt8) (p : Nat) (z : Str) : Bool := match g[p]? with
  | none => false
  | some c => (cds z).contains c.toNat
@[irreducible] def spAt (K : PySem.W.Frag) (C : Addr) : Sp := fun vs H Q E => ∃ (a dx ag : Addr) (p : Nat) (an ab : Addr) (g : List UInt8) (z : Str), vs = [.ref a, .str z] ∧ RAt C H a dx ag p an ab ∧ SqL K H ag (gv g) ∧
  p ≤ g.length ∧ (cds z).length ≤ 1000 ∧ (∀ H', Same H H' → Q (.bl (isAt g p z)) H')
theorem scAt : FnScope ["self", "signs", "sign"] ["self", "signs"] (defScope (sR 2)) := ⟨rfl, rfl, rfl, by decide +kernel, rfl, by decide +kernel, by decide +kernel⟩
theorem ok_at {f : Addr} {fd : FuncData} (F : Fun K "at" "Reader.at" (sR 2) f fd) (T : Txt K mg C CF fI) : FnOk P w K mg base CX0 2 f fd ["self", "signs"] (spAt K C) := by
  refine F.ok scAt (fun vs H Q E h => ?_) (fun cdv A outer s H vs Q E hr h => ⟨_, pss_one (ps_ret (pe_and (pe_cmpR op_lt (pe_fld (pv 0) rfl) (pe_callB call_len_seq (by rfl) T.len PySem.boot_len (pa_cons (pe_fld (pv 0) rfl) pa_nil)) (nomark _))
      (pe_one (pe_cmpR op_in_seq (pe_ix ix_list (pe_fld (pv 0) rfl) (pe_fld (pv 0) rfl) (fun _ _ => rfl))
        (pe_lc (own := [("sign", 2)]) (g := gName 2) (tt := tYes) rfl scAt.nd (pi_str (pv 1)) (blkOk_by (N := ["self", "signs", "sign"]) (sc := defScope (sR 2)) (by decide +kernel)) (fun _ _ _ _ _ => pg_name (i := 2) scAt.nd rfl (Or.inl rfl)) (fun _ _ _ _ _ => pts_nil)
          (fun _ _ _ _ _ => pe_callB call_ord (by rfl) T.ord (by decide +kernel) (pa_cons (pv 2) pa_nil))) (by rfl))))), ?_⟩)
  · unfold spAt at h
    obtain ⟨_, _, _, _, _, _, _, _, rfl, _⟩ := h
    rfl
  · unfold spAt at h
    obtain ⟨a, dx, ag, p, an, ab, g, z, rfl, r, sq, hp, hz, hQ⟩ := h
    refine ⟨_, rfl, a, C, dx, _, _, rfl, r, T.cl, T.nP, rF_place, _, rfl, a, C, dx, _, _, rfl, r, T.cl, T.nG, rF_given, ag, _, rfl, .inl sq, ?_⟩
    refine ⟨_, _, rfl, rfl, _, rfl, ?_⟩
    by_cases c : p < g.length
    · refine if_true_of (decide_eq_true (by rw [gv_len]; omega)) ?_
      have hg : g[p]? = some g[p] := List.getElem?_eq_getElem c
      refine ⟨_, rfl, a, C, dx, _, _, rfl, r, T.cl, T.nG, rF_given, _, rfl, a, C, dx, _, _, rfl, r, T.cl, T.nP, rF_place, ag, _, _, _, rfl, rfl, sq, gv_at hg, ?_⟩
      refine ⟨_, rfl, _, rfl, fun D hD => lc_it walk_str (fun i H' => H' D = some (.lst (((cds z).take i).map fun n => V.int (n : Nat))) ∧ Same H H') ?_ (fun _ _ _ _ => True.intro) ?_ ?_⟩
      · exact ⟨upd_same, Same.upd hD⟩
      · rintro i x H1 H2 hi ⟨e1, s1⟩ ⟨rfl, c2, hc, rfl⟩
        have hc' : (cds z)[i]? = some c2 := by rw [cds, Array.getElem?_toList]; exact hc
        refine ⟨rfl, ?_⟩
        unfold tYes
        dsimp only
        rw [if_pos rfl]
        refine ⟨_, rfl, _, rfl, rfl, _, e1, ?_, ?_, ?_⟩
        · rw [List.length_map, List.length_take]
          exact small1000 (by omega)
        · rw [upd_same]
          have e2 : (cds z).take (i + 1) = (cds z).take i ++ [c2] := by rw [List.take_add_one, hc']; rfl
          rw [e2, List.map_append]
          rfl
        · exact fun b o e => by
            rw [upd_ne (ne_of_none e hD)]
            exact s1 b o e
      · rintro H1 ⟨e1, s1⟩
        have el : (cds z).take z.cps.size = cds z := List.take_of_length_le (by simp [cds])
        rw [el] at e1
        refine ⟨D, _, rfl, .inl (SqL.of e1), rfl, by simp [flatV], ?_⟩
        have ei : inV (V.int (g[p].toNat : Nat)) ((cds z).map fun n => V.int (n : Nat)) = isAt g p z := by
          unfold isAt
          rw [hg]
          unfold inV
          rw [List.any_map, Bool.eq_iff_iff, List.any_eq_true, List.contains_iff_mem]
          constructor
          · rintro ⟨n, hn, e⟩
            have e' : ((n : Int) == (g[p].toNat : Int)) = true := e
            have e2 : n = g[p].toNat := Int.ofNat.inj (beq_iff_eq.mp e')
            exact e2 ▸ hn
          · intro hn
            exact ⟨_, hn, beq_self_eq_true (_ : Int)⟩
        rw [if_neg Bool.false_ne_true, ei]
        exact hQ _ s1
    · refine if_false_of (decide_eq_false (by rw [gv_len]; omega)) ?_
      have hg : g[p]? = none := List.getElem?_eq_none (by omega)
      have ei : isAt g p z = false := by unfold isAt; rw [hg]
      rw [← ei]
      exact hQ H (Same.refl H)
end
end Pat
end

section
namespace Pat
open PySem PySem.Spec PyProof.Rows L2
/-- a method and its promise -/
def MOk (P : Program) (w : World) (K : PySem.W.Frag) (mg : Str → Option Value) (base : Heap) (CX : CXT) (C : Addr) (k : Nat) (m : Str) (ps : List Str) (sp : Sp) : Prop :=
  ∃ f fd, Meth K C m f ∧ Binds K fd ps [] ∧ FnOk P w K mg base CX k f fd ps sp
/-- the text of one sign -/
def sg (c : Nat) : Str := ⟨#[c]⟩
section
variable {P : Program} {w : World} {K : PySem.W.Frag} {mg : Str → Option Value} {base : Heap} {C CF fI : Addr}
theorem need_pre {H : Hp} {a dx ag an ab : Addr} {p : Nat} {g : List UInt8} {Q : VK} {E : XK} (r : RAt C H a dx ag p an ab) (sq : SqL K H ag (gv g)) (h1 : p = g.length → Out CF ⟨1, p⟩ E) (h2 : p ≠ g.length → Q .non H) : spNeed K C CF [.ref a] H Q E := by
  unfold spNeed
  exact ⟨a, dx, ag, p, an, ab, g, rfl, r, sq, h1, h2⟩
/-! ### take -/
@[irreducible] def spTake (K : PySem.W.Frag) (C CF : Addr) : Sp := fun vs H Q E => ∃ (a dx ag : Addr) (p : Nat) (an ab : Addr) (g : List UInt8) (z : Str), vs = [.ref a, .str z] ∧ RAt C H a dx ag p an ab ∧ SqL K H ag (gv g) ∧ p ≤ g.length ∧
  match g[p]? with
  | none => Out CF ⟨1, p⟩ E
  | some c => if (cds z).contains c.toNat = true then ∀ H', RAt C H' a dx ag (p + 1) an ab → Kept H H' a → Q (.str (sg c.toNat)) H' else Out CF ⟨2, p⟩ E
theorem scTake : FnScope ["self", "signs", "sign"] ["self", "signs"] (defScope (sR 3)) := ⟨rfl, rfl, rfl, by decide +kernel, rfl, by decide +kernel, by decide +kernel⟩
theorem ok_take {f : Addr} {fd : FuncData} (F : Fun K "take" "Reader.take" (sR 3) f fd) (T : Txt K mg C CF fI) (M1 : MOk P w K mg base (L2N.CX P w) C 2 "need_byte" ["self"] (spNeed K C CF)) :
    FnOk P w K mg base (L2N.CX P w) 3 f fd ["self", "signs"] (spTake K C CF) := by
  obtain ⟨f1, fd1, m1, b1, G1⟩ := M1
  refine F.okN scTake (fun vs H Q E h => ?_) (fun cdv A outer s H vs Q E hr h => ⟨_, pss_cons (ps_expr (pe_meth0 (pv 0) T.cl m1 G1 hr b1 .nil (L2N.passes_call (L2N.takes_of rfl rfl rfl rfl) (fun _ _ _ _ h => h))))
      (pss_cons (ps_for (passes_of rfl) rfl (pi_str (pv 1)) (pg_name (i := 2) scTake.nd rfl (Or.inl rfl))
        (pss_one (ps_if (pt_cmpR op_eq (pe_ix ix_list (pe_fld (pv 0) rfl) (pe_fld (pv 0) rfl) (fun _ _ => rfl)) (pe_callB call_ord (by rfl) T.ord (by decide +kernel) (pa_cons (pv 2) pa_nil)) (nomark _))
          (pss_cons (ps_fldaug (pv 0) pe_int in_add) (pss_one (ps_ret (pv 2)))) pss_nil)))
      (pss_one (ps_raiseFault rfl T.ft hr (L2N.takes_of rfl rfl rfl rfl) (by exact (pa_cons (pe_gi T.k2) (pa_cons (pe_fld (pv 0) rfl) pa_nil)))))), ?_⟩)
  · unfold spTake at h
    obtain ⟨_, _, _, _, _, _, _, _, rfl, _⟩ := h
    rfl
  · unfold spTake at h
    obtain ⟨a, dx, ag, p, an, ab, g, z, rfl, r, sq, hp, hQ⟩ := h
    refine ⟨_, rfl, a, dx, _, rfl, r, rF_no (by decide +kernel), ?_⟩
    refine need_pre r sq (fun e => ?_) (fun e => ?_)
    · rw [List.getElem?_eq_none (by omega)] at hQ
      exact hQ
    · have hlt : p < g.length := by omega
      have hg : g[p]? = some g[p] := List.getElem?_eq_getElem hlt
      rw [hg] at hQ
      dsimp only at hQ
      refine ⟨_, rfl, _, rfl, for_it walk_str (fun i σ H1 => H1 = H ∧ (∃ v, σ = [some (.ref a), some (.str z), v]) ∧ ∀ n ∈ (cds z).take i, n ≠ g[p].toNat) ?_ (fun _ _ _ _ _ => True.intro) ?_ ?_⟩
      · exact ⟨rfl, ⟨none, rfl⟩, by simp⟩
      · rintro i x σ H1 H2 hi ⟨rfl, ⟨v, rfl⟩, hn⟩ ⟨rfl, c2, hc, rfl⟩
        have hc' : (cds z)[i]? = some c2 := by rw [cds, Array.getElem?_toList]; exact hc
        refine ⟨_, rfl, a, C, dx, _, _, rfl, r, T.cl, T.nG, rF_given, _, rfl, a, C, dx, _, _, rfl, r, T.cl, T.nP, rF_place, ag, _, _, _, rfl, rfl, sq, gv_at hg, _, rfl, _, rfl, rfl, rfl, _, rfl, ?_⟩
        by_cases hcc : c2 = g[p].toNat
        · refine if_true_of (decide_eq_true (by rw [← hcc]; rfl)) ?_
          rw [if_pos (by rw [List.contains_iff_mem, ← hcc]; exact List.mem_of_getElem? hc')] at hQ
          refine ⟨_, rfl, a, C, dx, _, _, rfl, r, T.cl, T.nP, rF_place, _, _, rfl, rfl, dx, _, r, by show 4 < 1000; decide, _, rfl, ?_⟩
          subst hcc
          exact hQ _ (upd_same.trans (congrArg (fun q => some (HO.ins C dx q)) (rF_put (q := p + 1)))) Kept.upd
        · refine if_false_of (decide_eq_false fun e => hcc ?_) ⟨rfl, ⟨_, rfl⟩, ?_⟩
          · injection e with e
            exact (Int.ofNat.inj e).symm
          · have e2 : (cds z).take (i + 1) = (cds z).take i ++ [c2] := by rw [List.take_add_one, hc']; rfl
            rw [e2]
            intro n hn2
            rcases List.mem_append.mp hn2 with h | h
            · exact hn n h
            · rw [List.mem_singleton.mp h]
              exact hcc
      · rintro σ H1 ⟨rfl, ⟨v, rfl⟩, hn⟩
        have el : (cds z).take z.cps.size = cds z := List.take_of_length_le (by simp [cds])
        rw [el] at hn
        rw [if_neg (by rw [List.contains_iff_mem]; exact fun h => hn _ h rfl)] at hQ
        exact ⟨_, rfl, a, C, dx, _, _, rfl, r, T.cl, T.nP, rF_place, _, _, rfl, fun d hd => hQ d _ upd_same⟩
end
end Pat
end

section
namespace Pat
open PySem PySem.Spec PyProof.Rows L2
/-! ### d.get(k, x) of a dict that the top has written -/
/-- at d the top has written a dict that holds r at the key y -/
def KAt (P : Program) (w : World) (K : PySem.W.Frag) (d : Addr) (y : V) (r : Option V) : Prop :=
  (d == sysModules) = false ∧ ∃ (κ : Type) (_ : DecidableEq κ) (knd : KeyKind P w κ) (k : κ) (f : κ → Option Value), (∀ u, RelV y u → knd.is k u = true) ∧ (∀ h : Heap, K.In h → h.MapOf knd d f) ∧ RelO r (f k)
def KDic (K : PySem.W.Frag) (d : Addr) : Prop := ∃ o, K.lookup d = some o ∧ o.cls = .type "dict" ∧ o.dict = none
def tKGet (P : Program) (w : World) (K : PySem.W.Frag) (td ty tx : TE) : TE := fun σ H Q => td σ H fun x H1 => ∃ a, x = .ref a ∧ KDic K a ∧ ty σ H1 fun y H2 => tx σ H2 fun z H3 => ∃ r, KAt P w K a y r ∧ Q (r.getD z) H3
theorem pe_kget2 {X : Cx} {o e f : Expr} {td ty tx : TE} {apos cpos : Pos} (ho : PE X o td) (he : PE X e ty) (hf : PE X f tx) (m : M2 X o "get" apos e f cpos) :
    PE X (.Call (.Attribute o "get" apos) [e, f] [] cpos) (tKGet X.prog X.w X.K td ty tx) := by
  constructor
  intro pins s σ H Q I h
  refine wpAny_Call_method m.base m.few m.line PySem.F.plainAttrs_dict PySem.F.slot_dict_get PySem.F.type_dict_get
    (thn (ho.run pins s σ H _ I h) fun u s1 hh => ?_)
  obtain ⟨x, H1, I1, rx, a, ex, ⟨ob, hob, hcl, hdi⟩, q1⟩ := hh
  subst ex
  obtain rfl : u = Value.ref a := rx
  refine ⟨⟨ob, I1.kIn _ _ hob, hcl⟩, fun b eb => ?_, ?_⟩
  · cases eb
    exact ⟨ob, I1.kIn _ _ hob, hdi⟩
  rw [m.trees]
  refine Calls.callWith_builtin rfl (Calls.evalArgs_plain (Calls.spliced_cons
    (thn (he.run pins s1 σ H1 _ I1 q1) fun iv s2 h2 => ?_)))
  obtain ⟨y, H2, I2, ry, q2⟩ := h2
  refine Calls.spliced_cons (thn (hf.run pins s2 σ H2 _ I2 q2) fun fv s3 h3 => ?_)
  obtain ⟨z, H3, I3, rz, r, ⟨hlow, κ, dq, knd, k, f', hk, hm, hr⟩, q3⟩ := h3
  refine Calls.spliced_nil ?_
  have hmap := hm _ I3.kIn
  refine call_meetsIn PySem.F.slot_dict_get hmap.typeIs PySem.F.entry_dict_get (PySem.F.args_dict_get_3 _ _ _) (meets_dict_get_default knd a (hk _ ry) hlow fv) ?_
  exact ⟨f', hmap, r.getD z, H3, I3.tok _, hr.getD rz, q3⟩
/-- two entries, whole numbers -/
theorem kat_int {P : Program} {w : World} {K : PySem.W.Frag} {d : Addr} {n : Nat} {a1 a2 v1 v2 : Int} {t1 t2 t3 t4 : Tok} (hd : (d == sysModules) = false)
    (hl : K.lookup d = some ⟨.type "dict", none, .dict #[⟨a1, .int a1 t1, .int v1 t2⟩, ⟨a2, .int a2 t3, .int v2 t4⟩] n, #[]⟩) (h1 : hashInt a1 = a1) (h2 : hashInt a2 = a2) (i : Int) :
    KAt P w K d (.int i) (if i = a1 then some (.int v1) else if i = a2 then some (.int v2) else none) := by
  refine ⟨hd, Int, inferInstance, intKind P w, i, fun k => findBy Value.isInt #[⟨a1, .int a1 t1, .int v1 t2⟩, ⟨a2, .int a2 t3, .int v2 t4⟩] k, ?_, ?_, ?_⟩
  · rintro u ⟨t, rfl⟩
    exact beq_self_eq_true i
  · intro h X
    refine ⟨_, _, n, X _ _ hl, ⟨rfl, rfl, rfl⟩, rfl, ?_, fun _ => rfl⟩
    intro e he
    simp only [List.mem_toArray, List.mem_cons, List.not_mem_nil, or_false] at he
    rcases he with rfl | rfl
    · exact ⟨a1, beq_self_eq_true a1, h1.symm⟩
    · exact ⟨a2, beq_self_eq_true a2, h2.symm⟩
  · unfold findBy
    dsimp only
    rw [List.find?_toArray]
    by_cases c1 : i = a1
    · subst c1
      rw [if_pos rfl, List.find?_cons_of_pos (by exact beq_self_eq_true i)]
      exact ⟨t2, rfl⟩
    · rw [if_neg c1, List.find?_cons_of_neg (by intro h; exact c1 (beq_iff_eq.mp h).symm)]
      by_cases c2 : i = a2
      · subst c2
        rw [if_pos rfl, List.find?_cons_of_pos (by exact beq_self_eq_true i)]
        exact ⟨t4, rfl⟩
      · rw [if_neg c2, List.find?_cons_of_neg (by intro h; exact c2 (beq_iff_eq.mp h).symm)]
        trivial
end Pat
end

section
namespace Pat
open PySem PySem.Spec PyProof.Rows L2
/-! ### the mathematics of one scalar value -/
def fb (c : Nat) : Int := match PatUtf.leads c with
  | none => -1
  | some (k, _, _) => (k : Nat)
def lowN (c : Nat) : Nat := if c = 224 then 160 else if c = 240 then 144 else 128
def highN (c : Nat) : Nat := if c = 237 then 159 else if c = 244 then 143 else 191
def markN (k : Nat) : Nat := match k with
  | 0 => 0
  | 1 => 192
  | 2 => 224
  | _ => 240
theorem fb_eq : ∀ c < 256, fb c = if c ≤ 127 then 0 else if 194 ≤ c ∧ c ≤ 223 then 1 else if 224 ≤ c ∧ c ≤ 239 then 2 else if 240 ≤ c ∧ c ≤ 244 then 3 else -1 := by decide +kernel
def leadsB (c : Nat) : Bool := match PatUtf.leads c with
  | none => true
  | some (k, lo, hi) => decide (k ≤ 3) && (decide (k = 0) || (decide (lo = lowN c) && decide (hi = highN c))) && decide (PatUtf.firstBits k c + markN k = c)
theorem leadsB_all : ∀ c < 256, leadsB c = true := by decide +kernel
theorem leads_some {c k lo hi : Nat} (hc : c < 256) (h : PatUtf.leads c = some (k, lo, hi)) : fb c = (k : Nat) ∧ k ≤ 3 ∧ (k = 0 ∨ (lo = lowN c ∧ hi = highN c)) ∧ PatUtf.firstBits k c + markN k = c := by
  refine ⟨by unfold fb; rw [h], ?_⟩
  have q := leadsB_all c hc
  unfold leadsB at q
  rw [h] at q
  simp only [Bool.and_eq_true, Bool.or_eq_true, decide_eq_true_eq] at q
  exact ⟨q.1.1, q.1.2, q.2⟩
theorem leads_none {c : Nat} (h : PatUtf.leads c = none) : fb c = -1 := by unfold fb; rw [h]
theorem low_ge (c : Nat) : 128 ≤ lowN c ∧ highN c ≤ 191 := by
  unfold lowN highN
  constructor <;> (repeat' split) <;> omega
/-! ### following_bytes -/
theorem chain_rd {lo hi c : Int} {Y N : Prop} (h : if lo ≤ c ∧ c ≤ hi then Y else N) :
    if decide (lo ≤ c) = true then (∃ i j, V.int c = V.int i ∧ V.int hi = V.int j ∧ ∃ k, V.bl (decide (i ≤ j)) = V.bl k ∧ if k = true then Y else N) else ∃ k, V.bl false = V.bl k ∧ if k = true then Y else N := by
  by_cases a : lo ≤ c
  · refine if_true_of (decide_eq_true a) ⟨_, _, rfl, rfl, _, rfl, ?_⟩
    by_cases b : c ≤ hi
    · rw [if_pos ⟨a, b⟩] at h
      exact if_true_of (decide_eq_true b) h
    · rw [if_neg (fun x => b x.2)] at h
      exact if_false_of (decide_eq_false b) h
  · rw [if_neg (fun x => a x.1)] at h
    exact if_false_of (decide_eq_false a) ⟨_, rfl, if_false_of rfl h⟩
theorem ite_if {a b : Prop} [Decidable a] [Decidable b] {Y N Y' N' : Prop} (e : a ↔ b) (h1 : Y → Y') (h2 : N → N') (h : if a then Y else N) : if b then Y' else N' := by
  by_cases c : a
  · rw [if_pos (e.mp c)]
    rw [if_pos c] at h
    exact h1 h
  · rw [if_neg (fun x => c (e.mpr x))]
    rw [if_neg c] at h
    exact h2 h
abbrev sFB : Stmt := top i_following_bytes
section
variable {P : Program} {w : World} {K : PySem.W.Frag} {mg : Str → Option Value} {base : Heap} {C CF fI : Addr}
def spFB : Sp := fun vs H Q _ => ∃ c : Nat, c < 256 ∧ vs = [.int c] ∧ Q (.int (fb c)) H
theorem scFB : FnScope ["first"] ["first"] (defScope sFB) := ⟨rfl, rfl, rfl, by decide +kernel, rfl, by decide +kernel, by decide +kernel⟩
theorem ok_fb {f : Addr} {fd : FuncData} (F : Fun K "following_bytes" "following_bytes" sFB f fd) : FnOk P w K mg base CX0 2 f fd ["first"] spFB := by
  refine F.ok scFB (fun vs H Q E h => ?_) (fun cdv A outer s H vs Q E hr h => ⟨_, pss_cons (ps_if (pt_cmpR op_le (pv 0) pe_int (nomark _)) (pss_one (ps_ret pe_int)) pss_nil)
      (pss_cons (ps_if (pt_chain op_le op_le pe_int (pv 0) pe_int) (pss_one (ps_ret pe_int)) pss_nil)
      (pss_cons (ps_if (pt_chain op_le op_le pe_int (pv 0) pe_int) (pss_one (ps_ret pe_int)) pss_nil)
      (pss_cons (ps_if (pt_chain op_le op_le pe_int (pv 0) pe_int) (pss_one (ps_ret pe_int)) pss_nil)
      (pss_one (ps_ret (pe_un un_neg pe_int)))))), ?_⟩)
  · obtain ⟨_, _, rfl, _⟩ := h
    rfl
  · obtain ⟨c, hc, rfl, hQ⟩ := h
    rw [fb_eq c hc] at hQ
    refine ⟨_, rfl, _, _, rfl, rfl, _, rfl, ?_⟩
    by_cases c1 : c ≤ 127
    · rw [if_pos c1] at hQ
      exact if_true_of (decide_eq_true (by omega)) hQ
    · rw [if_neg c1] at hQ
      refine if_false_of (decide_eq_false (by omega)) ?_
      by_cases c2 : 194 ≤ c ∧ c ≤ 223
      · rw [if_pos c2] at hQ
        refine ⟨_, rfl, _, _, rfl, rfl, _, rfl, chain_rd ?_⟩
        rw [if_pos (by omega)]
        exact hQ
      rw [if_neg c2] at hQ
      refine ⟨_, rfl, _, _, rfl, rfl, _, rfl, chain_rd ?_⟩
      rw [if_neg (by omega)]
      by_cases c3 : 224 ≤ c ∧ c ≤ 239
      · rw [if_pos c3] at hQ
        refine ⟨_, rfl, _, _, rfl, rfl, _, rfl, chain_rd ?_⟩
        rw [if_pos (by omega)]
        exact hQ
      rw [if_neg c3] at hQ
      refine ⟨_, rfl, _, _, rfl, rfl, _, rfl, chain_rd ?_⟩
      rw [if_neg (by omega)]
      by_cases c4 : 240 ≤ c ∧ c ≤ 244
      · rw [if_pos c4] at hQ
        refine ⟨_, rfl, _, _, rfl, rfl, _, rfl, chain_rd ?_⟩
        rw [if_pos (by omega)]
        exact hQ
      rw [if_neg c4] at hQ
      refine ⟨_, rfl, _, _, rfl, rfl, _, rfl, chain_rd ?_⟩
      rw [if_neg (by omega)]
      exact ⟨_, rfl, hQ⟩
end
end Pat
end

section
namespace Pat
open PySem PySem.Spec PyProof.Rows L2
open PySem.FaultX (FaultTxt)
/-- what the top has written ahead of scalar_at -/
structure TxS (P : Program) (w : World) (K : PySem.W.Frag) (mg : Str → Option Value) (CF fI fF : Addr) : Prop where
  ft : FaultTxt K mg CF fI
  k1 : ∃ t, mg "ENDS_TOO_SOON" = some (.int 1 t)
  k2 : ∃ t, mg "CANNOT_STAND" = some (.int 2 t)
  len : mg "len" = none
  range : mg "range" = none
  low : ∃ d, mg "LOWEST_SECOND" = some (.ref d) ∧ KDic K d ∧ ∀ i : Int, KAt P w K d (.int i) (if i = 224 then some (.int 160) else if i = 240 then some (.int 144) else none)
  high : ∃ d, mg "HIGHEST_SECOND" = some (.ref d) ∧ KDic K d ∧ ∀ i : Int, KAt P w K d (.int i) (if i = 237 then some (.int 159) else if i = 244 then some (.int 143) else none)
  marks : ∃ t, mg "FIRST_BYTE_MARKS" = some (.ref t) ∧ ∀ H, SqT K H t [.int 0, .int 192, .int 224, .int 240]
  gF : mg "following_bytes" = some (.ref fF)
  kF : PySem.W.keepIn K (.ref fF) = true
abbrev sSA : Stmt := top i_scalar_at
section
variable {P : Program} {w : World} {K : PySem.W.Frag} {mg : Str → Option Value} {base : Heap} {C CF fI fF : Addr}
@[irreducible] def spSA (K : PySem.W.Frag) (CF : Addr) : Sp := fun vs H Q E => ∃ (ag : Addr) (p : Nat) (g : List UInt8), vs = [.ref ag, .int p] ∧ SqL K H ag (gv g) ∧ p < g.length ∧ g.length ≤ 1000 ∧
  match PatWords.valueP p (g.drop p) with
  | .error e => Out CF e E
  | .ok (v, _, q) => ∀ H' t, Same H H' → H t = none → H' t = some (.tup [.int (v : Nat), .int (q : Nat)]) → Q (.ref t) H'
abbrev nmSA : List Str := ["given", "place", "first", "following", "value", "behind", "lowest", "highest", "at"]
theorem scSA : FnScope nmSA ["given", "place"] (defScope sSA) := ⟨rfl, rfl, rfl, by decide +kernel, rfl, by decide +kernel, by decide +kernel⟩
theorem drop_cons {g : List UInt8} {p : Nat} {c : UInt8} (h : g[p]? = some c) : g.drop p = c :: g.drop (p + 1) := by
  obtain ⟨hl, e⟩ := List.getElem?_eq_some_iff.mp h
  rw [List.drop_eq_getElem_cons hl, e]
def SAfin (CF : Addr) (H : Hp) (Q : VK) (E : XK) (p n : Nat) (res : Except Nat (Nat × List UInt8)) : Prop := match res with
  | .error q => Out CF (if q = n then ⟨1, q⟩ else ⟨2, q⟩) E
  | .ok (v, r) => ∀ H' t, Same H H' → H t = none → H' t = some (.tup [.int (v : Nat), .int ((p + (n - p - r.length) : Nat))]) → Q (.ref t) H'
theorem lowGet (c : Nat) : ((if (c : Int) = 224 then some (V.int 160) else if (c : Int) = 240 then some (V.int 144) else none).getD (V.int 128)) = V.int (lowN c : Nat) := by
  unfold lowN
  by_cases h1 : c = 224
  · rw [if_pos (by omega), if_pos h1]; rfl
  · rw [if_neg (by omega), if_neg h1]
    by_cases h2 : c = 240
    · rw [if_pos (by omega), if_pos h2]; rfl
    · rw [if_neg (by omega), if_neg h2]; rfl
theorem highGet (c : Nat) : ((if (c : Int) = 237 then some (V.int 159) else if (c : Int) = 244 then some (V.int 143) else none).getD (V.int 191)) = V.int (highN c : Nat) := by
  unfold highN
  by_cases h1 : c = 237
  · rw [if_pos (by omega), if_pos h1]; rfl
  · rw [if_neg (by omega), if_neg h1]
    by_cases h2 : c = 244
    · rw [if_pos (by omega), if_pos h2]; rfl
    · rw [if_neg (by omega), if_neg h2]; rfl
theorem follow_step {k lo hi x q : Nat} {c : UInt8} {b : List UInt8} : PatUtf.follow (k + 1) lo hi x q (c :: b) = if lo ≤ c.toNat ∧ c.toNat ≤ hi then PatUtf.follow k 128 191 (64 * x + c.toNat % 64) (q + 1) b else .error q := rfl
theorem ok_sa {f : Addr} {fd fdF : FuncData} (F : Fun K "scalar_at" "scalar_at" sSA f fd) (T : TxS P w K mg CF fI fF) (GF : FnOk P w K mg base CX0 2 fF fdF ["first"] spFB) (bF : Binds K fdF ["first"] []) :
    FnOk P w K mg base (L2N.CX P w) 3 f fd ["given", "place"] (spSA K CF) := by
  obtain ⟨dl, hl1, hl2, hl3⟩ := T.low
  obtain ⟨dh, hh1, hh2, hh3⟩ := T.high
  obtain ⟨tm, hm1, hm2⟩ := T.marks
  refine F.okN scSA (fun vs H Q E h => ?_) (fun cdv A outer s H vs Q E hr h => ⟨_, pss_cons (ps_set (i := 2) scSA.nd rfl (Or.inl rfl) (pe_ix ix_list (pv 0) (pv 1) (fun _ _ => rfl)))
      (pss_cons (ps_set (i := 3) scSA.nd rfl (Or.inl rfl) (pe_call GF hr rfl T.gF T.kF bF .nil pass0 (pa_cons (pv 2) pa_nil)))
      (pss_cons (ps_if (pt_cmpR op_lt (pv 3) pe_int (nomark _)) (pss_one (ps_raiseFault rfl T.ft hr (L2N.takes_of rfl rfl rfl rfl) (by exact (pa_cons (pe_gi T.k2) (pa_cons (pv 1) pa_nil))))) pss_nil)
      (pss_cons (ps_set (i := 4) scSA.nd rfl (Or.inl rfl) (pe_op op_sub (pv 2) (pe_ix ix_tup (pe_glob (v := .ref tm) rfl hm1 rfl) (pv 3) (fun _ _ => rfl))))
      (pss_cons (ps_set (i := 5) scSA.nd rfl (Or.inl rfl) (pe_op op_add (pe_op op_add (pv 1) pe_int) (pv 3)))
      (pss_cons (ps_set (i := 6) scSA.nd rfl (Or.inl rfl) (pe_kget2 (pe_glob (v := .ref dl) rfl hl1 rfl) (pv 2) pe_int ⟨by rfl, by rfl, by rfl, by rfl⟩))
      (pss_cons (ps_set (i := 7) scSA.nd rfl (Or.inl rfl) (pe_kget2 (pe_glob (v := .ref dh) rfl hh1 rfl) (pv 2) pe_int ⟨by rfl, by rfl, by rfl, by rfl⟩))
      (pss_cons (ps_for (passes_of rfl) rfl (pi_range2 (by rfl) T.range (pa_cons (pe_op op_add (pv 1) pe_int) (pa_cons (pv 5) pa_nil))) (pg_name (i := 8) scSA.nd rfl (Or.inl rfl))
        (pss_cons (ps_if (pt_cmpR op_eq (pv 8) (pe_callB call_len_seq (by rfl) T.len PySem.boot_len (pa_cons (pv 0) pa_nil)) (nomark _)) (pss_one (ps_raiseFault rfl T.ft hr (L2N.takes_of rfl rfl rfl rfl) (by exact (pa_cons (pe_gi T.k1) (pa_cons (pv 8) pa_nil))))) pss_nil)
        (pss_cons (ps_if (PW.pt (pw_or (pt_cmpR op_lt (pe_ix ix_list (pv 0) (pv 8) (fun _ _ => rfl)) (pv 6) (nomark _)) (pw_or1 (pt_cmpR op_gt (pe_ix ix_list (pv 0) (pv 8) (fun _ _ => rfl)) (pv 7) (nomark _)))))
          (pss_one (ps_raiseFault rfl T.ft hr (L2N.takes_of rfl rfl rfl rfl) (by exact (pa_cons (pe_gi T.k2) (pa_cons (pv 8) pa_nil))))) pss_nil)
        (pss_cons (ps_set (i := 4) scSA.nd rfl (Or.inl rfl) (pe_op op_sub (pe_op op_add (pe_op op_mul (pv 4) pe_int) (pe_ix ix_list (pv 0) (pv 8) (fun _ _ => rfl))) pe_int))
        (pss_cons (ps_set (i := 6) scSA.nd rfl (Or.inl rfl) pe_int) (pss_one (ps_set (i := 7) scSA.nd rfl (Or.inl rfl) pe_int)))))))
      (pss_one (ps_ret (pe_tup (pa_cons (pv 4) (pa_cons (pv 5) pa_nil)))))))))))), ?_⟩)
  · unfold spSA at h
    obtain ⟨_, _, _, rfl, _⟩ := h
    rfl
  · unfold spSA at h
    obtain ⟨ag, p, g, rfl, sq, hp, h1000, hQ⟩ := h
    have hg : g[p]? = some g[p] := List.getElem?_eq_getElem hp
    have hc : g[p].toNat < 256 := g[p].toNat_lt
    rw [drop_cons hg] at hQ
    unfold PatWords.valueP at hQ
    unfold PatUtf.scalarAt at hQ
    dsimp only at hQ
    refine ⟨_, rfl, _, rfl, ag, _, _, _, rfl, rfl, sq, gv_at hg, _, rfl, g[p].toNat, hc, rfl, ?_⟩
    refine ⟨_, rfl, _, _, rfl, rfl, _, rfl, ?_⟩
    cases e : PatUtf.leads g[p].toNat with
    | none =>
      rw [e] at hQ
      dsimp only at hQ
      rw [leads_none e]
      refine if_true_of rfl ?_
      rw [if_neg (by simp only [List.length_cons]; omega)] at hQ
      exact ⟨_, rfl, _, _, rfl, fun d hd => hQ d _ upd_same⟩
    | some z =>
      obtain ⟨k, lo, hi⟩ := z
      rw [e] at hQ
      dsimp only at hQ
      obtain ⟨ef, hk3, hlh, hb⟩ := leads_some hc e
      rw [ef]
      refine if_false_of (decide_eq_false (by omega)) ?_
      have hn : p + (g[p] :: g.drop (p + 1)).length = g.length := by
        rw [← drop_cons hg, List.length_drop]
        omega
      have hn2 : (g[p] :: g.drop (p + 1)).length = g.length - p := by omega
      have hF : SAfin CF H Q E p g.length (PatUtf.follow k lo hi (PatUtf.firstBits k g[p].toNat) (p + 1) (g.drop (p + 1))) := by
        rw [hn, hn2] at hQ
        unfold SAfin
        cases ef2 : PatUtf.follow k lo hi (PatUtf.firstBits k g[p].toNat) (p + 1) (g.drop (p + 1)) with
        | error q => rw [ef2] at hQ; exact hQ
        | ok z => rw [ef2] at hQ; exact hQ
      clear hQ
      have hF2 : SAfin CF H Q E p g.length (PatUtf.follow k (lowN g[p].toNat) (highN g[p].toNat) (PatUtf.firstBits k g[p].toNat) (p + 1) (g.drop (p + 1))) := by
        rcases hlh with h0 | ⟨h1, h2⟩
        · subst h0
          exact hF
        · rw [← h1, ← h2]
          exact hF
      clear hF
      have hm : ∃ m, atI [V.int 0, .int 192, .int 224, .int 240] ((k : Nat) : Int) = some m ∧ m = .int ((markN k : Nat) : Int) := by
        have : k = 0 ∨ k = 1 ∨ k = 2 ∨ k = 3 := by omega
        rcases this with h | h | h | h <;> subst h <;> exact ⟨_, rfl, rfl⟩
      obtain ⟨m, hm, rfl⟩ := hm
      refine ⟨_, rfl, _, rfl, tm, _, _, _, rfl, rfl, hm2 _, hm, _, _, rfl, rfl, ?_⟩
      refine ⟨_, rfl, _, _, rfl, rfl, _, rfl, _, _, rfl, rfl, ?_⟩
      refine ⟨_, rfl, hl2, _, rfl, _, hl3 _, ?_⟩
      refine ⟨_, rfl, hh2, _, rfl, _, hh3 _, ?_⟩
      refine ⟨_, rfl, _, _, rfl, rfl, _, rfl, _, _, rfl, ⟨by omega, by omega, by omega, by omega⟩, ?_⟩
      have en : ((p : Int) + 1 + (k : Nat) - ((p : Int) + 1)).toNat = k := by omega
      rw [lowGet, highGet, en]
      obtain ⟨hlo, hhi⟩ := low_ge g[p].toNat
      refine for_range (lo := (p : Int) + 1) (n := k) (fun i σ H1 => H1 = H ∧ i ≤ k ∧ ∃ (x l h : Nat) (xi bi : Int) (v8 : Option V),
        σ = [some (.ref ag), some (.int p), some (.int g[p].toNat), some (.int k), some (.int xi), some (.int bi), some (.int l), some (.int h), v8] ∧ xi = x ∧ bi = ((p + 1 + k : Nat) : Int) ∧
        128 ≤ l ∧ h ≤ 191 ∧ p + 1 + i ≤ g.length ∧ SAfin CF H Q E p g.length (PatUtf.follow (k - i) l h x (p + 1 + i) (g.drop (p + 1 + i)))) ?_ ?_ ?_
      · exact ⟨rfl, Nat.zero_le _, PatUtf.firstBits k g[p].toNat, lowN g[p].toNat, highN g[p].toNat, _, _, none, rfl, by omega, by omega, hlo, hhi, by omega, hF2⟩
      · rintro i σ H1 hi ⟨rfl, _, x, l, h, xi, bi, v8, rfl, hx, hbi, h1, h2, h3, hf⟩
        have ei : ((p : Int) + 1 + (i : Nat)) = ((p + 1 + i : Nat) : Int) := by omega
        rw [ei]
        refine ⟨_, rfl, _, rfl, ag, _, rfl, .inl sq, rfl, _, rfl, ?_⟩
        obtain ⟨j, hj⟩ : ∃ j, k - i = j + 1 := ⟨k - i - 1, by omega⟩
        rw [hj] at hf
        by_cases c1 : p + 1 + i = g.length
        · refine if_true_of (by rw [gv_len, c1]; exact decide_eq_true rfl) ?_
          rw [c1, List.drop_length] at hf
          have hf' : Out CF (if g.length = g.length then ⟨1, g.length⟩ else ⟨2, g.length⟩) E := hf
          rw [if_pos rfl] at hf'
          rw [c1]
          exact ⟨_, rfl, _, _, rfl, fun d hd => hf' d _ upd_same⟩
        · have hq : p + 1 + i < g.length := by omega
          refine if_false_of (decide_eq_false fun e => c1 ?_) ?_
          · rw [gv_len] at e
            injection e with e
            omega
          · have hgq : g[p + 1 + i]? = some g[p + 1 + i] := List.getElem?_eq_getElem hq
            rw [drop_cons hgq, follow_step] at hf
            refine ⟨_, rfl, _, rfl, ag, _, _, _, rfl, rfl, sq, gv_at hgq, _, rfl, _, _, rfl, rfl, _, rfl, ?_⟩
            by_cases a1 : g[p + 1 + i].toNat < l
            · rw [if_neg (by omega)] at hf
              have hf' : Out CF (if p + 1 + i = g.length then ⟨1, p + 1 + i⟩ else ⟨2, p + 1 + i⟩) E := hf
              rw [if_neg c1] at hf'
              exact if_true_of (decide_eq_true (by omega)) (if_true_of rfl ⟨_, rfl, _, _, rfl, fun d hd => hf' d _ upd_same⟩)
            · refine if_false_of (decide_eq_false (by omega)) ⟨_, rfl, _, rfl, ag, _, _, _, rfl, rfl, sq, gv_at hgq, _, rfl, _, _, rfl, rfl, _, rfl, ?_⟩
              by_cases a2 : h < g[p + 1 + i].toNat
              · rw [if_neg (by omega)] at hf
                have hf' : Out CF (if p + 1 + i = g.length then ⟨1, p + 1 + i⟩ else ⟨2, p + 1 + i⟩) E := hf
                rw [if_neg c1] at hf'
                exact if_true_of (decide_eq_true (by omega)) ⟨_, rfl, _, _, rfl, fun d hd => hf' d _ upd_same⟩
              · rw [if_pos (by omega)] at hf
                refine if_false_of (decide_eq_false (by omega)) ?_
                refine ⟨_, rfl, _, _, rfl, rfl, .inr ⟨by decide, by decide⟩, _, rfl, _, rfl, ag, _, _, _, rfl, rfl, sq, gv_at hgq, _, _, rfl, rfl, _, _, rfl, rfl, ?_⟩
                refine ⟨rfl, by omega, 64 * x + g[p + 1 + i].toNat % 64, 128, 191, _, _, _, rfl, by omega, hbi, by omega, by omega, by omega, ?_⟩
                have ek : k - (i + 1) = j := by omega
                rw [ek]
                exact hf
      · rintro σ H1 ⟨rfl, _, x, l, h, xi, bi, v8, rfl, hx, hbi, h1, h2, h3, hf⟩
        rw [Nat.sub_self] at hf
        have hf' : ∀ H' t, Same H1 H' → H1 t = none → H' t = some (.tup [.int (x : Nat), .int ((p + (g.length - p - (g.drop (p + 1 + k)).length) : Nat))]) → Q (.ref t) H' := hf
        have eb : p + (g.length - p - (g.drop (p + 1 + k)).length) = p + 1 + k := by
          rw [List.length_drop]
          omega
        rw [eb] at hf'
        subst hx hbi
        exact ⟨_, rfl, _, rfl, by show 2 ≤ sizeLine; decide, fun t ht => hf' _ t (Same.upd ht) ht upd_same⟩
end
end Pat
end

section
namespace Pat
open PySem PySem.Spec PyProof.Rows L2
open PySem.FaultX (FaultTxt)
open PatUtf (Fault)
/-! ### where a reader stands behind what it has read -/
theorem follow_drop : ∀ (k lo hi x p : Nat) (b : List UInt8) (z : Nat × List UInt8), PatUtf.follow k lo hi x p b = .ok z → z.2 = b.drop k ∧ k ≤ b.length
  | 0, _, _, _, _, b, z, h => by
    simp only [PatUtf.follow] at h
    cases h
    exact ⟨rfl, Nat.zero_le _⟩
  | k + 1, lo, hi, x, p, [], z, h => by
    simp only [PatUtf.follow] at h
    cases h
  | k + 1, lo, hi, x, p, c :: b, z, h => by
    simp only [PatUtf.follow] at h
    split at h
    · obtain ⟨h1, h2⟩ := follow_drop k _ _ _ _ b z h
      exact ⟨h1, Nat.succ_le_succ h2⟩
    · cases h
theorem valueP_drop {g : List UInt8} {p v q : Nat} {r : List UInt8} (h : PatWords.valueP p (g.drop p) = .ok (v, r, q)) : p < q ∧ q ≤ g.length ∧ r = g.drop q := by
  unfold PatWords.valueP at h
  cases e : PatUtf.scalarAt p (g.drop p) with
  | error x => rw [e] at h; cases h
  | ok y =>
    obtain ⟨v', r'⟩ := y
    rw [e] at h
    cases h
    cases eb : g.drop p with
    | nil => rw [eb] at e; cases e
    | cons c b =>
      rw [eb] at e
      have hl : (g.drop p).length = b.length + 1 := by rw [eb]; rfl
      rw [List.length_drop] at hl
      unfold PatUtf.scalarAt at e
      dsimp only at e
      cases ec : PatUtf.leads c.toNat with
      | none => rw [ec] at e; cases e
      | some z =>
        obtain ⟨k, lo, hi⟩ := z
        rw [ec] at e
        obtain ⟨h1, h2⟩ := follow_drop _ _ _ _ _ _ _ e
        dsimp only at h1
        have hb : b = g.drop (p + 1) := by
          have : (g.drop p).drop 1 = b := by rw [eb]; rfl
          rw [← this, List.drop_drop]
        have hr : r = g.drop (p + 1 + k) := by rw [h1, hb, List.drop_drop]
        have hrl : r.length = b.length - k := by rw [h1, List.length_drop]
        have eq : p + ((c :: b).length - r.length) = p + 1 + k := by
          rw [hrl, List.length_cons]
          omega
        rw [eq]
        exact ⟨by omega, by omega, hr⟩
/-! ### signs -/
theorem u8_all {p : UInt8 → Bool} (h : ∀ n < 256, p (UInt8.ofNat n) = true) (c : UInt8) : p c = true := by
  have e : UInt8.ofNat c.toNat = c := UInt8.ofNat_toNat
  rw [← e]
  exact h _ c.toNat_lt
abbrev zSet : Str := "\\][-^"
abbrev zPart : Str := "|*+?{}.^$\\[]()<>-ntdwsDWS"
abbrev zEnd : Str := "|*+?{}.^$\\[]()<>-nt"
abbrev zAtom : Str := "|*+?{}.^$\\[]()<>-ntdwsDWSb"
abbrev zSigns : Str := "|*+?{}.^$\\[]()<>"
abbrev zCls : Str := "dwsDWS"
/-- the program's own ranges of the six signs -/
def prgCls (d : Nat) : List (Nat × Nat) := if d = 100 then [(48, 57)] else if d = 119 then [(48, 57), (65, 90), (95, 95), (97, 122)] else if d = 115 then [(9, 13), (32, 32)]
  else if d = 68 then [(0, 47), (58, 1114111)] else if d = 87 then [(0, 47), (58, 64), (91, 94), (96, 96), (123, 1114111)] else [(0, 8), (14, 31), (33, 1114111)]
def escV (d : Nat) : Nat := if d = 110 then 10 else if d = 116 then 9 else d
/-- what an escape stands for -/
def escL (d : Nat) : List (Nat × Nat) := if (cds zCls).contains d = true then prgCls d else [(escV d, escV d)]
/-- alike in what they have -/
def SameR (l m : List (Nat × Nat)) : Prop := ∀ x, PatWords.inSet l x = PatWords.inSet m x
theorem set_signs (c : UInt8) : (cds zSet).contains c.toNat = PatWords.setSigns.contains c := by
  have := u8_all (p := fun c => (cds zSet).contains c.toNat == PatWords.setSigns.contains c) (by decide +kernel) c
  exact beq_iff_eq.mp this
theorem out_signs (c : UInt8) : (cds zSigns).contains c.toNat = PatWords.signs.contains c := by
  have := u8_all (p := fun c => (cds zSigns).contains c.toNat == PatWords.signs.contains c) (by decide +kernel) c
  exact beq_iff_eq.mp this
theorem oth_digits : PatWords.others PatWords.digits = [(0, 47), (58, 1114111)] := by
  have e : List.mergeSort [(48, 57)] (fun (a b : Nat × Nat) => decide (a.1 ≤ b.1)) = [(48, 57)] := by simp [List.mergeSort]
  unfold PatWords.others PatWords.digits
  rw [e]
  rfl
theorem oth_word : PatWords.others PatWords.wordSet = [(0, 47), (58, 64), (91, 94), (96, 96), (123, 1114111)] := by
  have e : List.mergeSort [(65, 90), (97, 122), (48, 57), (95, 95)] (fun (a b : Nat × Nat) => decide (a.1 ≤ b.1)) = [(48, 57), (65, 90), (95, 95), (97, 122)] := by
    simp [List.mergeSort, List.MergeSort.Internal.splitInTwo, List.merge]
  unfold PatWords.others PatWords.wordSet
  rw [e]
  rfl
theorem oth_space : PatWords.others PatWords.spaceSet = [(0, 8), (14, 31), (33, 1114111)] := by
  have e : List.mergeSort [(32, 32), (9, 13)] (fun (a b : Nat × Nat) => decide (a.1 ≤ b.1)) = [(9, 13), (32, 32)] := by
    simp [List.mergeSort, List.MergeSort.Internal.splitInTwo, List.merge]
  unfold PatWords.others PatWords.spaceSet
  rw [e]
  rfl
/-- the six sets, their ranges written out -/
def clsP (c : UInt8) : Option (List (Nat × Nat)) := if c = 100 then some [(48, 57)] else if c = 119 then some [(65, 90), (97, 122), (48, 57), (95, 95)] else if c = 115 then some [(32, 32), (9, 13)]
  else if c = 68 then some [(0, 47), (58, 1114111)] else if c = 87 then some [(0, 47), (58, 64), (91, 94), (96, 96), (123, 1114111)] else if c = 83 then some [(0, 8), (14, 31), (33, 1114111)] else none
theorem classOf_is (c : UInt8) : PatWords.classOf c = clsP c := by
  unfold PatWords.classOf clsP
  rw [oth_digits, oth_word, oth_space]
  rfl
def clsB (c : UInt8) (l : List (Nat × Nat)) : Bool := prgCls c.toNat == (if c = 119 then [(48, 57), (65, 90), (95, 95), (97, 122)] else if c = 115 then [(9, 13), (32, 32)] else l)
def escB (c : UInt8) : Bool := match clsP c with
  | some l => (cds zPart).contains c.toNat && (!(cds zEnd).contains c.toNat && ((cds zAtom).contains c.toNat && ((cds zCls).contains c.toNat && (c != 98 && clsB c l))))
  | none => match PatWords.escapedOf c with
    | some x => (cds zPart).contains c.toNat && ((cds zEnd).contains c.toNat && ((cds zAtom).contains c.toNat && (!(cds zCls).contains c.toNat && (escV c.toNat == x && c != 98))))
    | none => !(cds zPart).contains c.toNat && (!(cds zEnd).contains c.toNat && ((cds zAtom).contains c.toNat == (c == 98)))
theorem escB_all (c : UInt8) : escB c = true := u8_all (by decide +kernel) c
theorem word_same : SameR [(48, 57), (65, 90), (95, 95), (97, 122)] PatWords.wordSet := fun x => by
  simp only [PatWords.inSet, PatWords.wordSet, List.any_cons, List.any_nil, Bool.or_false]
  rw [Bool.eq_iff_iff]
  simp only [Bool.or_eq_true, Bool.and_eq_true, decide_eq_true_eq]
  omega
theorem space_same : SameR [(9, 13), (32, 32)] PatWords.spaceSet := fun x => by
  simp only [PatWords.inSet, PatWords.spaceSet, List.any_cons, List.any_nil, Bool.or_false]
  rw [Bool.eq_iff_iff]
  simp only [Bool.or_eq_true, Bool.and_eq_true, decide_eq_true_eq]
  omega
theorem cls_same {c : UInt8} {l : List (Nat × Nat)} (h : PatWords.classOf c = some l) : SameR (escL c.toNat) l := by
  have hb := escB_all c
  unfold escB at hb
  rw [classOf_is] at h
  rw [h] at hb
  simp only [Bool.and_eq_true] at hb
  obtain ⟨_, _, _, h4, _, h6⟩ := hb
  unfold escL
  rw [if_pos h4]
  unfold clsB at h6
  have h6 := beq_iff_eq.mp h6
  by_cases c1 : c = 119
  · subst c1
    cases h
    exact word_same
  by_cases c2 : c = 115
  · subst c2
    cases h
    exact space_same
  rw [if_neg c1, if_neg c2] at h6
  rw [h6]
  exact fun _ => rfl
end Pat
end

section
namespace Pat
open PySem PySem.Spec PyProof.Rows L2
open PySem.FaultX (FaultTxt)
open PatUtf (Fault)
open PatWords (valueP oneP partsP)
/-- whether ranges are one value alone -/
def isJust (l : List (Nat × Nat)) : Bool := match l.head?, l.getLast? with
  | some a, some b => decide (a.1 = b.2)
  | _, _ => false
/-- one of a set's ends: its ranges; where it ends -/
def oneE (z : Str) (g : List UInt8) (p : Nat) : Except Fault (List (Nat × Nat) × Nat) := match g[p]? with
  | none => .error ⟨1, p⟩
  | some c => if c = 92 then (match g[p + 1]? with
      | none => .error ⟨1, p + 1⟩
      | some d => if (cds z).contains d.toNat = true then .ok (escL d.toNat, p + 2) else .error ⟨2, p + 1⟩)
    else if (cds zSet).contains c.toNat = true then .error ⟨2, p⟩ else match valueP p (g.drop p) with
      | .error e => .error e
      | .ok (v, _, q) => .ok ([(v, v)], q)
def lstOf : Nat ⊕ List (Nat × Nat) → List (Nat × Nat)
  | .inl x => [(x, x)]
  | .inr l => l
theorem drop_none {g : List UInt8} {p : Nat} (h : g[p]? = none) : g.drop p = [] := List.drop_eq_nil_of_le (List.getElem?_eq_none_iff.mp h)
/-- the specification's word on one end, and the program's -/
def OneIs (r : Except Fault (List (Nat × Nat) × Nat)) (w : Except Fault ((Nat ⊕ List (Nat × Nat)) × List UInt8 × Nat)) : Prop := match w with
  | .error e => r = .error e
  | .ok (.inl x, _, q) => r = .ok ([(x, x)], q)
  | .ok (.inr l, _, q) => ∃ l', r = .ok (l', q) ∧ SameR l' l ∧ isJust l' = false
theorem escL_just {d : UInt8} {l : List (Nat × Nat)} (h : PatWords.classOf d = some l) : isJust (escL d.toNat) = false := by
  rw [classOf_is] at h
  have := u8_all (p := fun c => (clsP c == none) || isJust (escL c.toNat) == false) (by decide +kernel) d
  simp only [Bool.or_eq_true, beq_iff_eq] at this
  rcases this with e | e
  · rw [e] at h; cases h
  · exact e
theorem oneE_part (g : List UInt8) (p : Nat) : OneIs (oneE zPart g p) (oneP p (g.drop p)) := by
  unfold oneE
  cases hc : g[p]? with
  | none => rw [drop_none hc]; rfl
  | some c =>
    rw [drop_cons hc]
    unfold oneP
    dsimp only
    by_cases h92 : c = 92
    · rw [if_pos h92, if_pos h92]
      cases hd : g[p + 1]? with
      | none => rw [drop_none hd]; rfl
      | some d =>
        rw [drop_cons hd]
        dsimp only
        have hb := escB_all d
        unfold escB at hb
        rw [← classOf_is] at hb
        cases e1 : PatWords.classOf d with
        | some l =>
          rw [e1] at hb
          simp only [Bool.and_eq_true, Bool.not_eq_true', beq_iff_eq] at hb
          rw [if_pos hb.1]
          exact ⟨_, rfl, cls_same e1, escL_just e1⟩
        | none =>
          rw [e1] at hb
          cases e2 : PatWords.escapedOf d with
          | some x =>
            rw [e2] at hb
            simp only [Bool.and_eq_true, Bool.not_eq_true', beq_iff_eq] at hb
            rw [if_pos hb.1]
            unfold escL
            rw [if_neg (by rw [hb.2.2.2.1]; exact Bool.false_ne_true), hb.2.2.2.2.1]
            rfl
          | none =>
            rw [e2] at hb
            simp only [Bool.and_eq_true, Bool.not_eq_true', beq_iff_eq] at hb
            rw [if_neg (by rw [hb.1]; exact Bool.false_ne_true)]
            rfl
    · rw [if_neg h92, if_neg h92, set_signs]
      by_cases hs : PatWords.setSigns.contains c = true
      · rw [if_pos hs, if_pos hs]
        rfl
      · rw [if_neg hs, if_neg hs]
        cases valueP p (c :: g.drop (p + 1)) with
        | error e => rfl
        | ok y => rfl
/-- an end of a part: none of it is no value -/
theorem oneE_end (g : List UInt8) (p : Nat) : oneE zEnd g p = (match oneP p (g.drop p) with
    | .error e => .error e
    | .ok (.inl x, _, q) => .ok ([(x, x)], q)
    | .ok (.inr _, _, _) => .error ⟨2, p + 1⟩) := by
  unfold oneE
  cases hc : g[p]? with
  | none => rw [drop_none hc]; rfl
  | some c =>
    rw [drop_cons hc]
    unfold oneP
    dsimp only
    by_cases h92 : c = 92
    · rw [if_pos h92, if_pos h92]
      cases hd : g[p + 1]? with
      | none => rw [drop_none hd]
      | some d =>
        rw [drop_cons hd]
        dsimp only
        have hb := escB_all d
        unfold escB at hb
        rw [← classOf_is] at hb
        cases e1 : PatWords.classOf d with
        | some l =>
          rw [e1] at hb
          simp only [Bool.and_eq_true, Bool.not_eq_true', beq_iff_eq] at hb
          rw [if_neg (by rw [hb.2.1]; exact Bool.false_ne_true)]
        | none =>
          rw [e1] at hb
          cases e2 : PatWords.escapedOf d with
          | some x =>
            rw [e2] at hb
            simp only [Bool.and_eq_true, Bool.not_eq_true', beq_iff_eq] at hb
            rw [if_pos hb.2.1]
            unfold escL
            rw [if_neg (by rw [hb.2.2.2.1]; exact Bool.false_ne_true), hb.2.2.2.2.1]
          | none =>
            rw [e2] at hb
            simp only [Bool.and_eq_true, Bool.not_eq_true', beq_iff_eq] at hb
            rw [if_neg (by rw [hb.2.1]; exact Bool.false_ne_true)]
    · rw [if_neg h92, if_neg h92, set_signs]
      by_cases hs : PatWords.setSigns.contains c = true
      · rw [if_pos hs, if_pos hs]
      · rw [if_neg hs, if_neg hs]
        cases valueP p (c :: g.drop (p + 1)) with
        | error e => rfl
        | ok y => rfl
theorem oneE_ok {z : Str} {g : List UInt8} {p q : Nat} {x : List (Nat × Nat)} (h : oneE z g p = .ok (x, q)) : p < q ∧ q ≤ g.length := by
  unfold oneE at h
  cases hc : g[p]? with
  | none => rw [hc] at h; cases h
  | some c =>
    rw [hc] at h
    dsimp only at h
    split at h
    · cases hd : g[p + 1]? with
      | none => rw [hd] at h; cases h
      | some d =>
        rw [hd] at h
        dsimp only at h
        split at h
        · cases h
          have := (List.getElem?_eq_some_iff.mp hd).1
          omega
        · cases h
    · split at h
      · cases h
      · cases e : valueP p (g.drop p) with
        | error x => rw [e] at h; cases h
        | ok y =>
          obtain ⟨v, r, q'⟩ := y
          rw [e] at h
          cases h
          obtain ⟨h1, h2, _⟩ := valueP_drop e
          exact ⟨h1, h2⟩
theorem oneP_drop {g : List UInt8} {p q : Nat} {x} {r : List UInt8} (h : oneP p (g.drop p) = .ok (x, r, q)) : r = g.drop q := by
  unfold oneP at h
  cases hc : g[p]? with
  | none => rw [drop_none hc] at h; cases h
  | some c =>
    rw [drop_cons hc] at h
    dsimp only at h
    split at h
    · cases hd : g[p + 1]? with
      | none => rw [drop_none hd] at h; cases h
      | some d =>
        rw [drop_cons hd] at h
        dsimp only at h
        split at h
        · cases h; rfl
        · split at h
          · cases h; rfl
          · cases h
    · split at h
      · cases h
      · rw [← drop_cons hc] at h
        cases e : valueP p (g.drop p) with
        | error x => rw [e] at h; cases h
        | ok y =>
          obtain ⟨v, r', q'⟩ := y
          rw [e] at h
          cases h
          exact (valueP_drop e).2.2
/-- a part of a set: its ranges, where it ends -/
def partE (g : List UInt8) (p : Nat) : Except Fault (List (Nat × Nat) × Nat) := match oneE zPart g p with
  | .error e => .error e
  | .ok (l, q) => if isJust l = true ∧ isAt g q "-" = true then (match oneE zEnd g (q + 1) with
      | .error e => .error e
      | .ok (m, k) => if (m.head?.getD (0, 0)).2 < (l.head?.getD (0, 0)).1 then .error ⟨6, p⟩ else .ok ([((l.head?.getD (0, 0)).1, (m.head?.getD (0, 0)).2)], k)) else .ok (l, q)
theorem isAt_none {g : List UInt8} {p : Nat} {z : Str} (h : g[p]? = none) : isAt g p z = false := by unfold isAt; rw [h]
theorem isAt_some {g : List UInt8} {p : Nat} {z : Str} {c : UInt8} (h : g[p]? = some c) : isAt g p z = (cds z).contains c.toNat := by unfold isAt; rw [h]
theorem u8_eq {c : UInt8} {n : Nat} (hn : n < 256) : c.toNat = n ↔ c = UInt8.ofNat n := by
  constructor
  · intro h
    rw [← h]
    exact UInt8.ofNat_toNat.symm
  · intro h
    rw [h, UInt8.toNat_ofNat']
    omega
theorem at_dash {c : UInt8} : (cds "-").contains c.toNat = decide (c = 45) := by
  have := u8_all (p := fun c => (cds "-").contains c.toNat == decide (c = 45)) (by decide +kernel) c
  exact beq_iff_eq.mp this
theorem at_close {c : UInt8} : (cds "]").contains c.toNat = decide (c = 93) := by
  have := u8_all (p := fun c => (cds "]").contains c.toNat == decide (c = 93)) (by decide +kernel) c
  exact beq_iff_eq.mp this
theorem parts_part {f : Nat} {s : Bool} {acc : List (Nat × Nat)} {g : List UInt8} {p : Nat} (h : ∀ c, g[p]? = some c → c ≠ 93) :
    match partE g p with
    | .error e => partsP (f + 1) s acc p (g.drop p) = .error e
    | .ok (l, q) => ∃ l', SameR l l' ∧ partsP (f + 1) s acc p (g.drop p) = partsP f true (acc ++ l') q (g.drop q) := by
  have hpart := oneE_part g p
  unfold partE
  cases hc : g[p]? with
  | none =>
    rw [drop_none hc] at hpart ⊢
    have hpart : oneE zPart g p = .error ⟨1, p⟩ := hpart
    rw [hpart]
    rfl
  | some c =>
    have h93 := h c hc
    rw [drop_cons hc]
    rw [partsP]
    simp only [h93, if_false]
    rw [← drop_cons hc]
    cases e : oneP p (g.drop p) with
    | error x =>
      rw [e] at hpart
      have hpart : oneE zPart g p = .error x := hpart
      rw [hpart]
      rfl
    | ok y =>
      obtain ⟨x, r, q⟩ := y
      have hr := oneP_drop e
      subst hr
      rw [e] at hpart
      simp only [bind, Except.bind]
      cases x with
      | inr l =>
        obtain ⟨l', h1, h2, h3⟩ := hpart
        rw [h1]
        dsimp only
        rw [if_neg (by rw [h3]; exact fun x => Bool.false_ne_true x.1)]
        exact ⟨l, h2, rfl⟩
      | inl lo =>
        have hpart : oneE zPart g p = .ok ([(lo, lo)], q) := hpart
        rw [hpart]
        dsimp only
        have hj : isJust [(lo, lo)] = true := decide_eq_true rfl
        cases hd : g[q]? with
        | none =>
          rw [isAt_none hd, if_neg (fun x => Bool.false_ne_true x.2), drop_none hd]
          refine ⟨[(lo, lo)], fun _ => rfl, ?_⟩
          rw [drop_none hd]
          cases f <;> rfl
        | some d =>
          rw [isAt_some hd, at_dash, drop_cons hd]
          dsimp only
          by_cases h45 : d = 45
          · rw [if_pos ⟨hj, decide_eq_true h45⟩, if_pos h45, oneE_end]
            cases e2 : oneP (q + 1) (g.drop (q + 1)) with
            | error x => rfl
            | ok y2 =>
              obtain ⟨y, v, k⟩ := y2
              have hv := oneP_drop e2
              subst hv
              cases y with
              | inr l => rfl
              | inl hi =>
                dsimp only
                have e3 : ([(hi, hi)].head?.getD (0, 0)).2 = hi := rfl
                have e4 : ([(lo, lo)].head?.getD (0, 0)).1 = lo := rfl
                rw [e3, e4]
                by_cases hlt : hi < lo
                · rw [if_pos hlt, if_pos hlt]
                · rw [if_neg hlt, if_neg hlt]
                  exact ⟨[(lo, hi)], fun _ => rfl, rfl⟩
          · rw [if_neg (fun x => h45 (of_decide_eq_true x.2)), if_neg h45]
            exact ⟨[(lo, lo)], fun _ => rfl, by rw [drop_cons hd]⟩
theorem partE_ok {g : List UInt8} {p q : Nat} {l : List (Nat × Nat)} (h : partE g p = .ok (l, q)) : p < q ∧ q ≤ g.length := by
  unfold partE at h
  cases e : oneE zPart g p with
  | error x => rw [e] at h; cases h
  | ok y =>
    obtain ⟨x, q'⟩ := y
    obtain ⟨h1, h2⟩ := oneE_ok e
    rw [e] at h
    dsimp only at h
    split at h
    · cases e2 : oneE zEnd g (q' + 1) with
      | error x => rw [e2] at h; cases h
      | ok y2 =>
        obtain ⟨x2, k⟩ := y2
        obtain ⟨h3, h4⟩ := oneE_ok e2
        rw [e2] at h
        dsimp only at h
        split at h
        · cases h
        · cases h; exact ⟨by omega, h4⟩
    · cases h; exact ⟨h1, h2⟩
/-- ranges have something -/
theorem escL_ne (d : UInt8) : escL d.toNat ≠ [] := by
  have := u8_all (p := fun c => (escL c.toNat).isEmpty == false) (by decide +kernel) d
  intro h
  rw [h] at this
  cases this
theorem oneE_ne {z : Str} {g : List UInt8} {p q : Nat} {l : List (Nat × Nat)} (h : oneE z g p = .ok (l, q)) : l ≠ [] := by
  unfold oneE at h
  cases hc : g[p]? with
  | none => rw [hc] at h; cases h
  | some c =>
    rw [hc] at h
    dsimp only at h
    split at h
    · cases hd : g[p + 1]? with
      | none => rw [hd] at h; cases h
      | some d =>
        rw [hd] at h
        dsimp only at h
        split at h
        · cases h
          exact escL_ne d
        · cases h
    · split at h
      · cases h
      · cases e : valueP p (g.drop p) with
        | error x => rw [e] at h; cases h
        | ok y =>
          obtain ⟨v, r, q'⟩ := y
          rw [e] at h
          cases h
          exact fun x => nomatch x
end Pat
end

section
namespace Pat
open PySem PySem.Spec PyProof.Rows L2
open PySem.FaultX (FaultTxt)
open PatUtf (Fault)
open PatWords (valueP oneP partsP)
/-- a def of the module and its promise -/
def GOk (P : Program) (w : World) (K : PySem.W.Frag) (mg : Str → Option Value) (base : Heap) (CX : CXT) (k : Nat) (x : Str) (ps : List Str) (sp : Sp) : Prop :=
  ∃ f fd, mg x = some (.ref f) ∧ PySem.W.keepIn K (.ref f) = true ∧ Binds K fd ps [] ∧ FnOk P w K mg base CX k f fd ps sp
/-! ### ranges in the heap -/
def Tups (K : PySem.W.Frag) (H : Hp) : List Addr → List (Nat × Nat) → Prop
  | [], [] => True
  | t :: ts, r :: l => SqT K H t [.int (r.1 : Nat), .int (r.2 : Nat)] ∧ Tups K H ts l
  | _, _ => False
theorem Tups.map {K : PySem.W.Frag} {H H' : Hp} (k : ∀ t xs, SqT K H t xs → SqT K H' t xs) : ∀ {ts : List Addr} {l : List (Nat × Nat)}, Tups K H ts l → Tups K H' ts l
  | [], [], _ => trivial
  | [], _ :: _, h => h.elim
  | _ :: _, [], h => h.elim
  | t :: ts, n :: ns, ⟨h1, h2⟩ => ⟨k _ _ h1, Tups.map k h2⟩
theorem Tups.len {K : PySem.W.Frag} {H : Hp} : ∀ {ts : List Addr} {l : List (Nat × Nat)}, Tups K H ts l → ts.length = l.length
  | [], [], _ => rfl
  | [], _ :: _, h => h.elim
  | _ :: _, [], h => h.elim
  | t :: ts, n :: ns, ⟨h1, h2⟩ => congrArg (· + 1) (Tups.len h2)
theorem Tups.app {K : PySem.W.Frag} {H : Hp} : ∀ {ts us : List Addr} {l m : List (Nat × Nat)}, Tups K H ts l → Tups K H us m → Tups K H (ts ++ us) (l ++ m)
  | [], _, [], _, _, h => h
  | [], _, _ :: _, _, h, _ => h.elim
  | _ :: _, _, [], _, h, _ => h.elim
  | t :: ts, us, n :: ns, m, ⟨h1, h2⟩, h3 => ⟨h1, Tups.app h2 h3⟩
theorem Tups.get {K : PySem.W.Frag} {H : Hp} : ∀ {ts : List Addr} {l : List (Nat × Nat)} {i : Nat} {r : Nat × Nat}, Tups K H ts l → l[i]? = some r → ∃ t, ts[i]? = some t ∧ SqT K H t [.int (r.1 : Nat), .int (r.2 : Nat)]
  | [], [], _, _, _, e => nomatch e
  | [], _ :: _, _, _, h, _ => h.elim
  | _ :: _, [], _, _, h, _ => h.elim
  | t :: ts, n :: ns, 0, u, ⟨h1, h2⟩, e => by
    cases e
    exact ⟨t, rfl, h1⟩
  | t :: ts, n :: ns, i + 1, u, ⟨h1, h2⟩, e => Tups.get (ts := ts) (l := ns) (i := i) h2 e
/-- a list of ranges at ar -/
def RgAt (K : PySem.W.Frag) (H : Hp) (ar : Addr) (l : List (Nat × Nat)) : Prop := ∃ ts : List Addr, H ar = some (.lst (ts.map V.ref)) ∧ Tups K H ts l
/-- a new list of ranges -/
def RgNew (K : PySem.W.Frag) (H H' : Hp) (v : V) (l : List (Nat × Nat)) : Prop := ∃ ar, v = .ref ar ∧ H ar = none ∧ RgAt K H' ar l
theorem sqt_same' {K : PySem.W.Frag} {H H' : Hp} {t : Addr} {xs : List V} (h : SqT K H t xs) (s : Same H H') : SqT K H' t xs := by
  rcases h with (h | ⟨o, h⟩) | h
  · exact .inl (.inl (s _ _ h))
  · exact .inl (.inr ⟨o, s _ _ h⟩)
  · exact .inr h
theorem none_same {H H' : Hp} {x : Addr} (s : Same H H') (h : H' x = none) : H x = none := by
  cases e : H x with
  | none => rfl
  | some o => rw [s _ _ e] at h; cases h
theorem none_kept {H H' : Hp} {x a : Addr} {o : HO} (k : Kept H H' a) (ha : H' a = some o) (h : H' x = none) : H x = none := by
  cases e : H x with
  | none => rfl
  | some u =>
    have n : x ≠ a := fun y => by rw [y, ha] at h; cases h
    rw [k _ _ e n] at h
    cases h
theorem RgAt.same {K : PySem.W.Frag} {H H' : Hp} {ar : Addr} {l : List (Nat × Nat)} (h : RgAt K H ar l) (s : Same H H') : RgAt K H' ar l := by
  obtain ⟨ts, h1, h2⟩ := h
  exact ⟨ts, s _ _ h1, Tups.map (fun t xs e => sqt_same' e s) h2⟩
/-- the promise of a def that gives new ranges and changes nothing -/
def GivesR (K : PySem.W.Frag) (H : Hp) (Q : VK) (l : List (Nat × Nat)) : Prop := ∀ H' v, Same H H' → RgNew K H H' v l → Q v H'
section
variable {P : Program} {w : World} {K : PySem.W.Frag} {mg : Str → Option Value} {base : Heap} {C CF fI : Addr} {H : Hp} {Q : VK} {E : XK}
/-! ### just_one -/
abbrev sJust : Stmt := top i_just_one
@[irreducible] def spJust (K : PySem.W.Frag) : Sp := fun vs H Q _ => ∃ v : Nat, vs = [.int (v : Nat)] ∧ GivesR K H Q [(v, v)]
theorem just_use {v : Nat} (h : GivesR K H Q [(v, v)]) : spJust K [.int (v : Nat)] H Q E := by
  unfold spJust
  exact ⟨v, rfl, h⟩
theorem scJust : FnScope ["value"] ["value"] (defScope sJust) := ⟨rfl, rfl, rfl, by decide +kernel, rfl, by decide +kernel, by decide +kernel⟩
theorem ok_just {f : Addr} {fd : FuncData} (F : Fun K "just_one" "just_one" sJust f fd) : FnOk P w K mg base CX0 2 f fd ["value"] (spJust K) := by
  refine F.ok scJust (fun vs H Q E h => ?_) (fun cdv A outer s H vs Q E hr h => ⟨_, pss_one (ps_ret (pe_lst (pa_cons (pe_tup (pa_cons (pv 0) (pa_cons (pv 0) pa_nil))) pa_nil))), ?_⟩)
  · unfold spJust at h
    obtain ⟨_, rfl, _⟩ := h
    rfl
  unfold spJust at h
  obtain ⟨v, rfl, hQ⟩ := h
  refine ⟨_, rfl, _, rfl, by show 2 ≤ sizeLine; decide, fun t ht => ⟨by show 1 ≤ sizeLine; decide, fun ar har => ?_⟩⟩
  have htn : ar ≠ t := fun e => by rw [e, upd_same] at har; cases har
  have har0 : H ar = none := by rw [upd_ne htn] at har; exact har
  refine hQ _ _ ((Same.upd ht).trans (Same.upd har)) ⟨ar, rfl, har0, [t], upd_same, ?_, trivial⟩
  exact SqT.of ((upd_ne htn.symm).trans upd_same)
/-! ### is_just_one -/
abbrev sIsJ : Stmt := top i_is_just_one
@[irreducible] def spIsJ (K : PySem.W.Frag) : Sp := fun vs H Q _ => ∃ (ar : Addr) (l : List (Nat × Nat)), vs = [.ref ar] ∧ RgAt K H ar l ∧ l ≠ [] ∧ Q (.bl (isJust l)) H
theorem isj_use {ar : Addr} {l : List (Nat × Nat)} (h : RgAt K H ar l) (hl : l ≠ []) (q : Q (.bl (isJust l)) H) : spIsJ K [.ref ar] H Q E := by
  unfold spIsJ
  exact ⟨ar, l, rfl, h, hl, q⟩
theorem scIsJ : FnScope ["ranges"] ["ranges"] (defScope sIsJ) := ⟨rfl, rfl, rfl, by decide +kernel, rfl, by decide +kernel, by decide +kernel⟩
theorem RgAt.first {ar : Addr} {l : List (Nat × Nat)} (h : RgAt K H ar l) (hl : l ≠ []) : ∃ (ts : List Addr) (t : Addr), SqL K H ar (ts.map V.ref) ∧ atI (ts.map V.ref) (0 : Int) = some (V.ref t) ∧ SqT K H t [.int ((l.head?.getD (0, 0)).1 : Nat), .int ((l.head?.getD (0, 0)).2 : Nat)] := by
  obtain ⟨ts, h1, h2⟩ := h
  cases l with
  | nil => exact absurd rfl hl
  | cons r l =>
    cases ts with
    | nil => exact h2.elim
    | cons t ts => exact ⟨t :: ts, t, SqL.of h1, atI_nat (j := 0) rfl, h2.1⟩
theorem RgAt.last {ar : Addr} {l : List (Nat × Nat)} (h : RgAt K H ar l) (hl : l ≠ []) : ∃ (ts : List Addr) (t : Addr), SqL K H ar (ts.map V.ref) ∧ atI (ts.map V.ref) (-1 : Int) = some (V.ref t) ∧ SqT K H t [.int ((l.getLast?.getD (0, 0)).1 : Nat), .int ((l.getLast?.getD (0, 0)).2 : Nat)] := by
  obtain ⟨ts, h1, h2⟩ := h
  have hll : l = l.dropLast ++ [l.getLast hl] := (List.dropLast_concat_getLast hl).symm
  have hne : ts ≠ [] := fun e => by
    have := h2.len
    rw [e] at this
    cases l with
    | nil => exact hl rfl
    | cons _ _ => cases this
  have htt : ts = ts.dropLast ++ [ts.getLast hne] := (List.dropLast_concat_getLast hne).symm
  have hi : l[l.length - 1]? = some (l.getLast hl) := by
    rw [← List.getLast?_eq_getElem?, List.getLast?_eq_some_getLast hl]
  obtain ⟨t, ht, hs⟩ := h2.get hi
  refine ⟨ts, t, SqL.of h1, ?_, ?_⟩
  · have e : ts.getLast hne = t := by
      have : ts[ts.length - 1]? = some (ts.getLast hne) := by rw [← List.getLast?_eq_getElem?, List.getLast?_eq_some_getLast hne]
      rw [h2.len] at this
      rw [this] at ht
      exact Option.some.inj ht
    rw [htt, e, List.map_append]
    exact atI_last _ _
  · rw [List.getLast?_eq_some_getLast hl]
    exact hs
theorem ok_isj {f : Addr} {fd : FuncData} (F : Fun K "is_just_one" "is_just_one" sIsJ f fd) : FnOk P w K mg base CX0 2 f fd ["ranges"] (spIsJ K) := by
  refine F.ok scIsJ (fun vs H Q E h => ?_) (fun cdv A outer s H vs Q E hr h => ⟨_, pss_one (ps_ret (pe_cmpR op_eq (pe_ix ix_tup (pe_ix ix_list (pv 0) pe_int (fun _ _ => rfl)) pe_int (fun _ _ => rfl)) (pe_ix ix_tup (pe_ix ix_list (pv 0) (pe_un un_neg pe_int) (fun _ _ => rfl)) pe_int (fun _ _ => rfl)) (nomark _))), ?_⟩)
  · unfold spIsJ at h
    obtain ⟨_, _, rfl, _⟩ := h
    rfl
  unfold spIsJ at h
  obtain ⟨ar, l, rfl, h, hl, hQ⟩ := h
  obtain ⟨ts, t, a1, a2, a3⟩ := h.first hl
  obtain ⟨us, u, b1, b2, b3⟩ := h.last hl
  refine ⟨_, rfl, ar, _, _, _, rfl, rfl, a1, a2, t, _, _, _, rfl, rfl, a3, rfl, ?_⟩
  refine ⟨_, rfl, _, rfl, ar, _, _, _, rfl, rfl, b1, b2, u, _, _, _, rfl, rfl, b3, rfl, rfl, ?_⟩
  have e : decide (V.int ((l.head?.getD (0, 0)).1 : Nat) = V.int ((l.getLast?.getD (0, 0)).2 : Nat)) = isJust l := by
    unfold isJust
    cases e1 : l.head? with
    | none => exact absurd (List.head?_eq_none_iff.mp e1) hl
    | some x =>
      cases e2 : l.getLast? with
      | none => exact absurd (List.getLast?_eq_none_iff.mp e2) hl
      | some y =>
        by_cases c : x.1 = y.2
        · exact (decide_eq_true (congrArg (fun n : Nat => V.int (n : Nat)) c)).trans (decide_eq_true c).symm
        · exact (decide_eq_false fun h => c (by injection h with h; exact Int.ofNat.inj h)).trans (decide_eq_false c).symm
  rw [e]
  exact hQ
/-! ### every_value -/
abbrev sEvery : Stmt := top i_every_value
@[irreducible] def spEvery (K : PySem.W.Frag) : Sp := fun vs H Q _ => vs = [] ∧ GivesR K H Q [(0, 1114111)]
theorem every_use (h : GivesR K H Q [(0, 1114111)]) : spEvery K [] H Q E := by
  unfold spEvery
  exact ⟨rfl, h⟩
theorem scEvery : FnScope [] [] (defScope sEvery) := ⟨rfl, rfl, rfl, by decide +kernel, rfl, by decide +kernel, by decide +kernel⟩
theorem ok_every {f : Addr} {fd : FuncData} (F : Fun K "every_value" "every_value" sEvery f fd) (hG : ∃ t, mg "GREATEST" = some (.int 1114111 t)) : FnOk P w K mg base CX0 2 f fd [] (spEvery K) := by
  refine F.ok scEvery (fun vs H Q E h => ?_) (fun cdv A outer s H vs Q E hr h => ⟨_, pss_one (ps_ret (pe_lst (pa_cons (pe_tup (pa_cons pe_int (pa_cons (pe_gi hG) pa_nil))) pa_nil))), ?_⟩)
  · unfold spEvery at h
    obtain ⟨rfl, _⟩ := h
    rfl
  unfold spEvery at h
  obtain ⟨rfl, hQ⟩ := h
  refine ⟨by show 2 ≤ sizeLine; decide, fun t ht => ⟨by show 1 ≤ sizeLine; decide, fun ar har => ?_⟩⟩
  have htn : ar ≠ t := fun e => by rw [e, upd_same] at har; cases har
  have har0 : H ar = none := by rw [upd_ne htn] at har; exact har
  refine hQ _ _ ((Same.upd ht).trans (Same.upd har)) ⟨ar, rfl, har0, [t], upd_same, ?_, trivial⟩
  exact SqT.of ((upd_ne htn.symm).trans upd_same)
end
end Pat
end

section
namespace Pat
open PySem PySem.Spec PyProof.Rows L2
open PySem.FaultX (FaultTxt)
open PatUtf (Fault)
open PatWords (valueP oneP partsP)
theorem Same.upd' {H H1 : Hp} {x : Addr} {o : HO} (s : Same H H1) (h : H x = none) : Same H (L2.upd H1 x o) := fun b u e => by
  rw [upd_ne (ne_of_none e h)]
  exact s b u e
/-! ### all_but -/
def abStep (x : List (Nat × Nat) × Nat) (r : Nat × Nat) : List (Nat × Nat) × Nat := (if x.2 < r.1 then x.1 ++ [(x.2, r.1 - 1)] else x.1, r.2 + 1)
def abGo (l : List (Nat × Nat)) : List (Nat × Nat) × Nat := l.foldl abStep ([], 0)
def abL (l : List (Nat × Nat)) : List (Nat × Nat) := (abGo l).1 ++ [((abGo l).2, 1114111)]
theorem abGo_len (l : List (Nat × Nat)) : (abGo l).1.length ≤ l.length := by
  have key : ∀ (m : List (Nat × Nat)) (x : List (Nat × Nat) × Nat), (m.foldl abStep x).1.length ≤ x.1.length + m.length := by
    intro m
    induction m with
    | nil => intro x; exact Nat.le_refl _
    | cons r m ih =>
      intro x
      rw [List.foldl_cons]
      have := ih (abStep x r)
      have h2 : (abStep x r).1.length ≤ x.1.length + 1 := by
        unfold abStep
        dsimp only
        split
        · rw [List.length_append]; exact Nat.le_refl _
        · omega
      rw [List.length_cons]
      omega
  have := key l ([], 0)
  simpa [abGo] using this
/-- a written tuple of ranges -/
def KRg (K : PySem.W.Frag) (tt : Addr) (l : List (Nat × Nat)) : Prop := ∃ ts : List Addr, ∀ H, SqT K H tt (ts.map V.ref) ∧ Tups K H ts l
section
variable {P : Program} {w : World} {K : PySem.W.Frag} {mg : Str → Option Value} {base : Heap} {C CF fI : Addr} {H : Hp} {Q : VK} {E : XK}
abbrev sAllBut : Stmt := top i_all_but
@[irreducible] def spAllBut (K : PySem.W.Frag) : Sp := fun vs H Q _ => ∃ (tt : Addr) (l : List (Nat × Nat)), vs = [.ref tt] ∧ KRg K tt l ∧ l.length ≤ 100 ∧ GivesR K H Q (abL l)
theorem allbut_use {tt : Addr} {l : List (Nat × Nat)} (h : KRg K tt l) (hl : l.length ≤ 100) (q : GivesR K H Q (abL l)) : spAllBut K [.ref tt] H Q E := by
  unfold spAllBut
  exact ⟨tt, l, rfl, h, hl, q⟩
theorem scAllBut : FnScope ["ranges", "others", "first", "lowest", "highest"] ["ranges"] (defScope sAllBut) := ⟨rfl, rfl, rfl, by decide +kernel, rfl, by decide +kernel, by decide +kernel⟩
theorem tups_upd {H : Hp} {ts : List Addr} {l : List (Nat × Nat)} {x : Addr} {ys zs : List V} (h : Tups K H ts l) (e : H x = some (.lst ys)) : Tups K (upd H x (.lst zs)) ts l :=
  Tups.map (fun t xs hs => by
    rcases hs with (h | ⟨o, h⟩) | h
    · exact .inl (.inl ((upd_ne (ne_of h e (by intro z; cases z))).trans h))
    · exact .inl (.inr ⟨o, (upd_ne (ne_of h e (by intro z; cases z))).trans h⟩)
    · exact .inr h) h
theorem ok_allbut {f : Addr} {fd : FuncData} (F : Fun K "all_but" "all_but" sAllBut f fd) (hG : ∃ t, mg "GREATEST" = some (.int 1114111 t)) : FnOk P w K mg base CX0 2 f fd ["ranges"] (spAllBut K) := by
  refine F.ok scAllBut (fun vs H Q E h => ?_) (fun cdv A outer s H vs Q E hr h => ⟨_, pss_cons (ps_set (i := 1) scAllBut.nd rfl (.inl rfl) (pe_lst pa_nil))
      (pss_cons (ps_set (i := 2) scAllBut.nd rfl (.inl rfl) pe_int)
      (pss_cons (ps_for PassesOwn.never rfl (pi_tup (pv 0)) (pg_tup (by rfl) (pgs_cons (pg_name (i := 3) scAllBut.nd rfl (.inl rfl)) (pgs_cons (pg_name (i := 4) scAllBut.nd rfl (.inl rfl)) pgs_nil)))
        (pss_cons (ps_if (pt_cmpR op_lt (pv 2) (pv 3) (nomark _)) (pss_one (ps_expr (pe_bm PySem.F.plainAttrs_list PySem.F.slot_list_append PySem.F.type_list_append mt_append (pv 1) (pa_cons (pe_tup (pa_cons (pv 2) (pa_cons (pe_op op_sub (pv 3) pe_int) pa_nil))) pa_nil)))) pss_nil)
        (pss_one (ps_set (i := 2) scAllBut.nd rfl (.inl rfl) (pe_op op_add (pv 4) pe_int)))))
      (pss_cons (ps_expr (pe_bm PySem.F.plainAttrs_list PySem.F.slot_list_append PySem.F.type_list_append mt_append (pv 1) (pa_cons (pe_tup (pa_cons (pv 2) (pa_cons (pe_gi hG) pa_nil))) pa_nil)))
      (pss_one (ps_ret (pv 1)))))), ?_⟩)
  · unfold spAllBut at h
    obtain ⟨_, _, rfl, _⟩ := h
    rfl
  unfold spAllBut at h
  obtain ⟨tt, l, rfl, ⟨ts, hK⟩, hl, hQ⟩ := h
  have hlen : ts.length = l.length := (hK H).2.len
  refine ⟨by show 0 ≤ sizeLine; decide, fun o ho => ?_⟩
  refine ⟨_, rfl, tt, rfl, ⟨_, (hK _).1⟩, for_tup (xs := ts.map V.ref) (fun i σ H' => ∃ us : List Addr, (∃ v3 v4, σ = [some (.ref tt), some (.ref o), some (.int (((abGo (l.take i)).2 : Nat) : Int)), v3, v4]) ∧ Same H H' ∧ H' o = some (.lst (us.map V.ref)) ∧ Tups K H' us (abGo (l.take i)).1) ?_ (fun _ _ _ _ _ => (hK _).1) ?_ ?_⟩
  · exact ⟨[], ⟨_, _, rfl⟩, Same.upd ho, upd_same, trivial⟩
  · rintro i x σ H1 hx ⟨us, ⟨v3, v4, rfl⟩, s1, e1, t1⟩
    rw [List.getElem?_map] at hx
    cases et : ts[i]? with
    | none => rw [et] at hx; cases hx
    | some t =>
      rw [et] at hx
      cases hx
      have hil : i < l.length := by rw [← hlen]; exact (List.getElem?_eq_some_iff.mp et).1
      have er : l[i]? = some l[i] := List.getElem?_eq_getElem hil
      obtain ⟨t', ht', st⟩ := (hK H1).2.get er
      rw [et] at ht'
      cases ht'
      have e2 : l.take (i + 1) = l.take i ++ [l[i]] := by rw [List.take_add_one, er]; rfl
      have e3 : abGo (l.take (i + 1)) = abStep (abGo (l.take i)) l[i] := by
        rw [e2]
        unfold abGo
        rw [List.foldl_append]
        rfl
      have hul : us.length ≤ 100 := by
        rw [t1.len]
        have := abGo_len (l.take i)
        rw [List.length_take] at this
        omega
      refine ⟨t, _, rfl, st, rfl, _, _, rfl, _, _, rfl, rfl, ?_⟩
      refine ⟨_, rfl, _, rfl, _, _, rfl, rfl, _, rfl, ?_⟩
      by_cases c : (abGo (l.take i)).2 < l[i].1
      · refine if_true_of (decide_eq_true (by omega)) ?_
        refine ⟨_, rfl, .inl ⟨rfl, _, SqL.of e1⟩, _, rfl, _, rfl, _, _, rfl, rfl, by show 2 ≤ sizeLine; decide, fun u hu => ?_⟩
        have huo : o ≠ u := fun e => by rw [← e, e1] at hu; cases hu
        refine ⟨o, _, _, rfl, rfl, (upd_ne huo).trans e1, small1000 (by rw [List.length_map]; omega), ?_⟩
        refine ⟨_, rfl, _, _, rfl, rfl, ?_⟩
        refine ⟨us ++ [u], ?_, ?_, ?_, ?_⟩
        · rw [e3]
          exact ⟨_, _, rfl⟩
        · exact Same.upd' (s1.trans (Same.upd hu)) ho
        · rw [upd_same, List.map_append]
          rfl
        · rw [e3]
          unfold abStep
          rw [if_pos c]
          refine Tups.app (tups_upd (Tups.map (fun _ _ h => sqt_same' h (Same.upd hu)) t1) ((upd_ne huo).trans e1)) ⟨?_, trivial⟩
          exact SqT.of ((upd_ne huo.symm).trans (upd_same.trans (by rw [Int.ofNat_sub (by omega)]; rfl)))
      · refine if_false_of (decide_eq_false (by omega)) ?_
        refine ⟨_, rfl, _, _, rfl, rfl, ?_⟩
        refine ⟨us, ?_, s1, e1, ?_⟩
        · rw [e3]
          exact ⟨_, _, rfl⟩
        · rw [e3]
          unfold abStep
          rw [if_neg c]
          exact t1
  · rintro σ H1 ⟨us, ⟨v3, v4, rfl⟩, s1, e1, t1⟩
    have etk : l.take (ts.map V.ref).length = l := List.take_of_length_le (by rw [List.length_map]; omega)
    rw [etk] at t1
    have hul : us.length ≤ 100 := by
      rw [t1.len]
      have := abGo_len l
      omega
    rw [etk]
    refine ⟨_, rfl, .inl ⟨rfl, _, SqL.of e1⟩, _, rfl, by show 2 ≤ sizeLine; decide, fun u hu => ?_⟩
    have huo : o ≠ u := fun e => by rw [← e, e1] at hu; cases hu
    refine ⟨o, _, _, rfl, rfl, (upd_ne huo).trans e1, small1000 (by rw [List.length_map]; omega), ?_⟩
    refine ⟨_, rfl, ?_⟩
    refine hQ _ _ (Same.upd' (s1.trans (Same.upd hu)) ho) ⟨o, rfl, ho, us ++ [u], ?_, ?_⟩
    · rw [upd_same, List.map_append]
      rfl
    · exact Tups.app (tups_upd (Tups.map (fun _ _ h => sqt_same' h (Same.upd hu)) t1) ((upd_ne huo).trans e1)) ⟨SqT.of ((upd_ne huo.symm).trans upd_same), trivial⟩
/-! ### listed_ranges -/
abbrev sListed : Stmt := top i_listed_ranges
/-- what the top has written of the three lists -/
structure TxL (w : World) (K : PySem.W.Frag) (mg : Str → Option Value) (d : Addr) (es : Array DictEntry) (n : Nat) (t1 t2 t3 : Addr) : Prop where
  at_ : mg "LISTED_RANGES" = some (.ref d)
  dic : KDict K w d es n
  e1 : PySem.W.nsIn K d (sg 100) = some (some (.ref t1))
  e2 : PySem.W.nsIn K d (sg 119) = some (some (.ref t2))
  e3 : PySem.W.nsIn K d (sg 115) = some (some (.ref t3))
  e4 : PySem.W.nsIn K d (sg 68) = some none
  e5 : PySem.W.nsIn K d (sg 87) = some none
  e6 : PySem.W.nsIn K d (sg 83) = some none
  r1 : KRg K t1 [(48, 57)]
  r2 : KRg K t2 [(48, 57), (65, 90), (95, 95), (97, 122)]
  r3 : KRg K t3 [(9, 13), (32, 32)]
  list : mg "list" = none
@[irreducible] def spListed (K : PySem.W.Frag) : Sp := fun vs H Q _ => ∃ c : Nat, vs = [.str (sg c)] ∧ c ∈ cds zCls ∧ GivesR K H Q (prgCls c)
theorem listed_use {c : Nat} (h : c ∈ cds zCls) (q : GivesR K H Q (prgCls c)) : spListed K [.str (sg c)] H Q E := by
  unfold spListed
  exact ⟨c, rfl, h, q⟩
theorem scListed : FnScope ["sign"] ["sign"] (defScope sListed) := ⟨rfl, rfl, rfl, by decide +kernel, rfl, by decide +kernel, by decide +kernel⟩
theorem ok_listed {f : Addr} {fd : FuncData} (F : Fun K "listed_ranges" "listed_ranges" sListed f fd) {d : Addr} {es : Array DictEntry} {n : Nat} {t1 t2 t3 : Addr} (T : TxL w K mg d es n t1 t2 t3) (G1 : GOk P w K mg base CX0 2 "all_but" ["ranges"] (spAllBut K)) :
    FnOk P w K mg base CX0 3 f fd ["sign"] (spListed K) := by
  obtain ⟨f1, fd1, gg1, k1, b1, G1⟩ := G1
  refine F.ok scListed (fun vs H Q E h => ?_) (fun cdv A outer s H vs Q E hr h => ⟨_, pss_cons (ps_if (pt_cmpR (op_in_kd T.dic) (pv 0) (pe_glob (v := .ref d) rfl T.at_ rfl) (by rfl))
        (pss_one (ps_ret (pe_callTy call_list_of (by rfl) T.list (by decide +kernel) (pa_cons (pe_ix ix_kdict (pe_glob (v := .ref d) rfl T.at_ rfl) (pv 0) (fun _ _ => rfl)) pa_nil)))) pss_nil)
      (pss_one (ps_ret (pe_call G1 hr rfl gg1 k1 b1 .nil pass0 (by exact (pa_cons (pe_ix ix_kdict (pe_glob (v := .ref d) rfl T.at_ rfl) (pe_lower (pv 0)) (fun _ _ => rfl)) pa_nil))))), ?_⟩)
  · unfold spListed at h
    obtain ⟨_, rfl, _⟩ := h
    rfl
  unfold spListed at h
  obtain ⟨c, rfl, hc, hQ⟩ := h
  -- one that is there
  have there : ∀ (tt : Addr), PySem.W.nsIn K d (sg c) = some (some (.ref tt)) → KRg K tt (prgCls c) → KDct K w d (sg c) (V.ref tt) ∧ ∃ ts : List Addr, (∀ H, SqT K H tt (ts.map V.ref)) ∧ ∀ H, Tups K H ts (prgCls c) := fun tt e ⟨ts, hK⟩ =>
    ⟨⟨es, n, .ref tt, T.dic.at_, T.dic.lit, e, rfl⟩, ts, fun H => (hK H).1, fun H => (hK H).2⟩
  have hcs : c = 100 ∨ c = 119 ∨ c = 115 ∨ c = 68 ∨ c = 87 ∨ c = 83 := by
    have e : cds zCls = [100, 119, 115, 68, 87, 83] := by decide +kernel
    rw [e] at hc
    simpa using hc
  refine ⟨_, rfl, ?_⟩
  rcases hcs with e | e | e | e | e | e
  · subst e
    obtain ⟨kd, ts, hs, ht⟩ := there _ T.e1 T.r1
    exact ⟨_, _, rfl, rfl, T.e1, _, rfl, if_true_of rfl ⟨_, rfl, d, _, _, rfl, rfl, kd, _, _, rfl, .inr (hs _), fun l hl => hQ _ _ (Same.upd hl) ⟨l, rfl, hl, ts, upd_same, ht _⟩⟩⟩
  · subst e
    obtain ⟨kd, ts, hs, ht⟩ := there _ T.e2 T.r2
    exact ⟨_, _, rfl, rfl, T.e2, _, rfl, if_true_of rfl ⟨_, rfl, d, _, _, rfl, rfl, kd, _, _, rfl, .inr (hs _), fun l hl => hQ _ _ (Same.upd hl) ⟨l, rfl, hl, ts, upd_same, ht _⟩⟩⟩
  · subst e
    obtain ⟨kd, ts, hs, ht⟩ := there _ T.e3 T.r3
    exact ⟨_, _, rfl, rfl, T.e3, _, rfl, if_true_of rfl ⟨_, rfl, d, _, _, rfl, rfl, kd, _, _, rfl, .inr (hs _), fun l hl => hQ _ _ (Same.upd hl) ⟨l, rfl, hl, ts, upd_same, ht _⟩⟩⟩
  · subst e
    have el : Txt.lower (sg 68) = sg 100 := by decide +kernel
    exact ⟨_, _, rfl, rfl, T.e4, _, rfl, if_false_of rfl ⟨_, rfl, ⟨_, rfl⟩, _, rfl, rfl, by decide +kernel, d, _, V.ref t1, rfl, rfl, ⟨es, n, .ref t1, T.dic.at_, T.dic.lit, by rw [el]; exact T.e1, rfl⟩, allbut_use T.r1 (by decide) hQ⟩⟩
  · subst e
    have el : Txt.lower (sg 87) = sg 119 := by decide +kernel
    exact ⟨_, _, rfl, rfl, T.e5, _, rfl, if_false_of rfl ⟨_, rfl, ⟨_, rfl⟩, _, rfl, rfl, by decide +kernel, d, _, V.ref t2, rfl, rfl, ⟨es, n, .ref t2, T.dic.at_, T.dic.lit, by rw [el]; exact T.e2, rfl⟩, allbut_use T.r2 (by decide) hQ⟩⟩
  · subst e
    have el : Txt.lower (sg 83) = sg 115 := by decide +kernel
    exact ⟨_, _, rfl, rfl, T.e6, _, rfl, if_false_of rfl ⟨_, rfl, ⟨_, rfl⟩, _, rfl, rfl, by decide +kernel, d, _, V.ref t3, rfl, rfl, ⟨es, n, .ref t3, T.dic.at_, T.dic.lit, by rw [el]; exact T.e3, rfl⟩, allbut_use T.r3 (by decide) hQ⟩⟩
end
end Pat
end

section
namespace Pat
open PySem PySem.Spec PyProof.Rows L2
open PySem.FaultX (FaultTxt)
open PatUtf (Fault)
open PatWords (valueP oneP partsP)
/-- the reader at a stands at p of g -/
def At (K : PySem.W.Frag) (C : Addr) (H : Hp) (a dx ag : Addr) (p : Nat) (an ab : Addr) (g : List UInt8) : Prop := RAt C H a dx ag p an ab ∧ SqL K H ag (gv g) ∧ p ≤ g.length ∧ g.length ≤ 1000
/-- a way out: a fault, or a value with the reader at another place and all else as it was -/
def Ret (C CF : Addr) (a dx ag an ab : Addr) (H : Hp) (Q : VK) (E : XK) (res : Except Fault (V × Nat)) : Prop := match res with
  | .error e => Out CF e E
  | .ok (v, q) => ∀ H', RAt C H' a dx ag q an ab → Kept H H' a → Q v H'
/-- a way out with new ranges -/
def RetR (K : PySem.W.Frag) (C CF : Addr) (a dx ag an ab : Addr) (H : Hp) (Q : VK) (E : XK) (res : Except Fault (List (Nat × Nat) × Nat)) : Prop := match res with
  | .error e => Out CF e E
  | .ok (l, q) => ∀ H' v, RAt C H' a dx ag q an ab → Kept H H' a → RgNew K H H' v l → Q v H'
def takeE (z : Str) (g : List UInt8) (p : Nat) : Except Fault (V × Nat) := match g[p]? with
  | none => .error ⟨1, p⟩
  | some c => if (cds z).contains c.toNat = true then .ok (.str (sg c.toNat), p + 1) else .error ⟨2, p⟩
section
variable {P : Program} {w : World} {K : PySem.W.Frag} {mg : Str → Option Value} {base : Heap} {C CF fI : Addr} {H H1 H2 : Hp} {a dx ag an ab : Addr} {p q : Nat} {g : List UInt8} {z : Str} {Q : VK} {E : XK}
theorem At.next (h : At K C H a dx ag p an ab g) (r : RAt C H1 a dx ag q an ab) (k : Kept H H1 a) (hq : q ≤ g.length) : At K C H1 a dx ag q an ab g := ⟨r, seq_kept h.2.1 h.1 k, hq, h.2.2.2⟩
theorem At.same (h : At K C H a dx ag p an ab g) (s : Same H H1) : At K C H1 a dx ag p an ab g := ⟨s _ _ h.1, s.seq h.2.1, h.2.2.1, h.2.2.2⟩
theorem take_use (h : At K C H a dx ag p an ab g) (r : Ret C CF a dx ag an ab H Q E (takeE z g p)) : spTake K C CF [.ref a, .str z] H Q E := by
  unfold spTake
  refine ⟨a, dx, ag, p, an, ab, g, z, rfl, h.1, h.2.1, h.2.2.1, ?_⟩
  unfold takeE at r
  cases e : g[p]? with
  | none => rw [e] at r; exact r
  | some c =>
    rw [e] at r
    dsimp only at r ⊢
    by_cases hc : (cds z).contains c.toNat = true
    · rw [if_pos hc] at r ⊢
      exact r
    · rw [if_neg hc] at r ⊢
      exact r
theorem at_use (h : At K C H a dx ag p an ab g) (hz : (cds z).length ≤ 1000) (r : ∀ H', Same H H' → Q (.bl (isAt g p z)) H') : spAt K C [.ref a, .str z] H Q E := by
  unfold spAt
  exact ⟨a, dx, ag, p, an, ab, g, z, rfl, h.1, h.2.1, h.2.2.1, hz, r⟩
theorem need_use (h : At K C H a dx ag p an ab g) (h1 : p = g.length → Out CF ⟨1, p⟩ E) (h2 : p < g.length → Q .non H) : spNeed K C CF [.ref a] H Q E :=
  need_pre h.1 h.2.1 h1 fun n => h2 (by have := h.2.2.1; omega)
theorem sa_use {ag : Addr} {p : Nat} (sq : SqL K H ag (gv g)) (hp : p < g.length) (hl : g.length ≤ 1000) (r : match valueP p (g.drop p) with
    | .error e => Out CF e E
    | .ok (v, _, q) => ∀ H' t, Same H H' → H t = none → H' t = some (.tup [.int (v : Nat), .int (q : Nat)]) → Q (.ref t) H') : spSA K CF [.ref ag, .int p] H Q E := by
  unfold spSA
  exact ⟨ag, p, g, rfl, sq, hp, hl, r⟩
theorem Ret.mono {res : Except Fault (V × Nat)} {H0 : Hp} (r : Ret C CF a dx ag an ab H0 Q E res) (k : Kept H0 H a) : Ret C CF a dx ag an ab H Q E res := by
  unfold Ret at r ⊢
  cases res with
  | error e => exact r
  | ok y => exact fun H' r' k' => r H' r' (k.trans k')
theorem RetR.mono {res : Except Fault (List (Nat × Nat) × Nat)} {H0 : Hp} {p0 : Nat} (r : RetR K C CF a dx ag an ab H0 Q E res) (k : Kept H0 H a) (ha : RAt C H a dx ag p0 an ab) : RetR K C CF a dx ag an ab H Q E res := by
  unfold RetR at r ⊢
  cases res with
  | error e => exact r
  | ok y => exact fun H' v r' k' ⟨ar, h1, h2, h3⟩ => r H' v r' (k.trans k') ⟨ar, h1, none_kept k ha h2, h3⟩
/-! ### take_plain -/
def plainE (z : Str) (g : List UInt8) (p : Nat) : Except Fault (List (Nat × Nat) × Nat) := match g[p]? with
  | none => .error ⟨1, p⟩
  | some c => if (cds z).contains c.toNat = true then .error ⟨2, p⟩ else match valueP p (g.drop p) with
    | .error e => .error e
    | .ok (v, _, q) => .ok ([(v, v)], q)
@[irreducible] def spPlain (K : PySem.W.Frag) (C CF : Addr) : Sp := fun vs H Q E => ∃ (a dx ag : Addr) (p : Nat) (an ab : Addr) (g : List UInt8) (z : Str), vs = [.ref a, .str z] ∧ At K C H a dx ag p an ab g ∧ (cds z).length ≤ 1000 ∧ RetR K C CF a dx ag an ab H Q E (plainE z g p)
theorem scPlain : FnScope ["self", "barred", "found"] ["self", "barred"] (defScope (sR 4)) := ⟨rfl, rfl, rfl, by decide +kernel, rfl, by decide +kernel, by decide +kernel⟩
theorem ok_plain {f : Addr} {fd : FuncData} (F : Fun K "take_plain" "Reader.take_plain" (sR 4) f fd) (T : Txt K mg C CF fI) (M1 : MOk P w K mg base (L2N.CX P w) C 2 "need_byte" ["self"] (spNeed K C CF))
    (M2 : MOk P w K mg base CX0 C 2 "at" ["self", "signs"] (spAt K C)) (G3 : GOk P w K mg base (L2N.CX P w) 3 "scalar_at" ["given", "place"] (spSA K CF)) (G4 : GOk P w K mg base CX0 2 "just_one" ["value"] (spJust K)) :
    FnOk P w K mg base (L2N.CX P w) 4 f fd ["self", "barred"] (spPlain K C CF) := by
  obtain ⟨f1, fd1, m1, b1, G1⟩ := M1
  obtain ⟨f2, fd2, m2, b2, G2⟩ := M2
  obtain ⟨f3, fd3, gg3, k3, b3, G3⟩ := G3
  obtain ⟨f4, fd4, gg4, k4, b4, G4⟩ := G4
  refine F.okN scPlain (fun vs H Q E h => ?_) (fun cdv A outer s H vs Q E hr h => ⟨_, pss_cons (ps_expr (pe_meth0 (pv 0) T.cl m1 G1 (hr.mono (by decide)) b1 .nil (L2N.passes_call (L2N.takes_of rfl rfl rfl rfl) (fun _ _ _ _ h => h))))
      (pss_cons (ps_if (pt_val (pe_meth (pv 0) T.cl m2 G2 (hr.mono (by decide)) b2 .nil pass0 (pa_cons (pv 1) pa_nil)))
        (pss_one (ps_raiseFault rfl T.ft hr (L2N.takes_of rfl rfl rfl rfl) (by exact (pa_cons (pe_gi T.k2) (pa_cons (pe_fld (pv 0) rfl) pa_nil))))) pss_nil)
      (pss_cons (ps_set (i := 2) scPlain.nd rfl (Or.inl rfl) (pe_call G3 hr rfl gg3 k3 b3 .nil (L2N.passes_call (L2N.takes_of rfl rfl rfl rfl) (fun _ _ _ _ h => h)) (by exact (pa_cons (pe_fld (pv 0) rfl) (pa_cons (pe_fld (pv 0) rfl) pa_nil)))))
      (pss_cons (ps_fld (pv 0) (pe_ix ix_tup (pv 2) pe_int (fun _ _ => rfl)) rfl)
      (pss_one (ps_ret (pe_call G4 (hr.mono (by decide)) rfl gg4 k4 b4 .nil pass0 (by exact (pa_cons (pe_ix ix_tup (pv 2) pe_int (fun _ _ => rfl)) pa_nil)))))))), ?_⟩)
  · unfold spPlain at h
    obtain ⟨_, _, _, _, _, _, _, _, rfl, _⟩ := h
    rfl
  · unfold spPlain at h
    obtain ⟨a, dx, ag, p, an, ab, g, z, rfl, h, hz, hQ⟩ := h
    refine ⟨_, rfl, a, dx, _, rfl, h.1, rF_no (by decide +kernel), ?_⟩
    refine need_use h (fun e => ?_) (fun e => ?_)
    · unfold plainE at hQ
      rw [List.getElem?_eq_none (by omega)] at hQ
      exact hQ
    · have hg : g[p]? = some g[p] := List.getElem?_eq_getElem e
      refine ⟨_, rfl, a, dx, _, rfl, h.1, rF_no (by decide +kernel), _, rfl, ?_⟩
      refine at_use h hz fun H1 s1 => ?_
      have h1 := h.same s1
      refine ⟨_, rfl, ?_⟩
      unfold plainE at hQ
      rw [hg] at hQ
      dsimp only at hQ
      rw [isAt_some hg]
      by_cases hc : (cds z).contains g[p].toNat = true
      · rw [if_pos hc] at hQ
        refine if_true_of hc ?_
        have hQ' : Out CF ⟨2, p⟩ E := hQ
        exact ⟨_, rfl, a, C, dx, _, _, rfl, h1.1, T.cl, T.nP, rF_place, _, _, rfl, fun d hd => hQ' d _ upd_same⟩
      · rw [if_neg hc] at hQ
        refine if_false_of (by simpa using hc) ?_
        refine ⟨_, rfl, a, C, dx, _, _, rfl, h1.1, T.cl, T.nG, rF_given, _, rfl, a, C, dx, _, _, rfl, h1.1, T.cl, T.nP, rF_place, ?_⟩
        refine sa_use h1.2.1 e h1.2.2.2 ?_
        cases ev : valueP p (g.drop p) with
        | error x =>
          rw [ev] at hQ
          exact hQ
        | ok y =>
          obtain ⟨v, r, q⟩ := y
          rw [ev] at hQ
          dsimp only
          intro H2 t s2 hn ht
          have hQ' : ∀ H' v', RAt C H' a dx ag q an ab → Kept H H' a → RgNew K H H' v' [(v, v)] → Q v' H' := hQ
          have h2 := h1.same s2
          have ta : t ≠ a := (ne_of_none h1.1 hn).symm
          refine ⟨_, rfl, t, _, _, _, rfl, rfl, SqT.of ht, rfl, ?_⟩
          refine ⟨_, rfl, a, C, dx, _, rfl, h2.1, T.cl, T.nP, by show 4 < 1000; decide, ?_⟩
          refine ⟨_, rfl, t, _, _, _, rfl, rfl, SqT.of (by rw [upd_ne ta]; exact ht), rfl, ?_⟩
          have ra : RAt C (upd H2 a (.ins C dx (putF "place" (.int (q : Nat)) (rF ag p an ab)))) a dx ag q an ab := upd_same.trans (congrArg (fun q => some (HO.ins C dx q)) rF_put)
          have kk : Kept H (upd H2 a (.ins C dx (putF "place" (.int (q : Nat)) (rF ag p an ab)))) a := (Kept.of_same (s1.trans s2)).trans Kept.upd
          refine just_use fun H3 v' s3 ⟨ar, e1, e2, e3⟩ => ?_
          exact hQ' _ _ (s3 _ _ ra) (kk.trans (Kept.of_same s3)) ⟨ar, e1, none_kept kk ra e2, e3⟩
end
end Pat
end

section
namespace Pat
open PySem PySem.Spec PyProof.Rows L2
open PySem.FaultX (FaultTxt)
open PatUtf (Fault)
open PatWords (valueP oneP partsP)
/-- two entries, texts of one sign -/
theorem kat_str {P : Program} {w : World} {K : PySem.W.Frag} {d : Addr} {n : Nat} {a1 a2 : Nat} {v1 v2 : Int} {t1 t2 t3 t4 : Tok} (hd : (d == sysModules) = false)
    (hl : K.lookup d = some ⟨.type "dict", none, .dict #[⟨PyData.keyHash w.params (sg a1), .str (sg a1) t1, .int v1 t2⟩, ⟨PyData.keyHash w.params (sg a2), .str (sg a2) t3, .int v2 t4⟩] n, #[]⟩) (i : Nat) :
    KAt P w K d (.str (sg i)) (if i = a1 then some (.int v1) else if i = a2 then some (.int v2) else none) := by
  have inj : ∀ {a b : Nat}, sg a = sg b → a = b := fun {a b} e => by
    have e2 : (#[a] : Array Nat) = #[b] := congrArg Str.cps e
    simpa using e2
  refine ⟨hd, Str, inferInstance, strKind P w, sg i, fun k => findBy Value.isStrOf #[⟨PyData.keyHash w.params (sg a1), .str (sg a1) t1, .int v1 t2⟩, ⟨PyData.keyHash w.params (sg a2), .str (sg a2) t3, .int v2 t4⟩] k, ?_, ?_, ?_⟩
  · rintro u ⟨t, rfl⟩
    exact PySem.strKind_is P w (sg i) t
  · intro h X
    refine PySem.W.mapOf_K X hl ?_
    exact ⟨⟨_, _, rfl, rfl⟩, ⟨_, _, rfl, rfl⟩, trivial⟩
  · unfold findBy
    dsimp only
    rw [List.find?_toArray]
    have is_ : ∀ (a : Nat) (t : Tok), Value.isStrOf (sg i) (.str (sg a) t) = decide (i = a) := fun a t => by
      by_cases c : i = a
      · subst c
        rw [decide_eq_true rfl]
        exact PySem.strKind_is P w (sg i) t
      · rw [decide_eq_false c]
        cases e : Value.isStrOf (sg i) (.str (sg a) t) with
        | false => rfl
        | true =>
          exact absurd (inj (Value.isStrOf_inj _ _ _ e (PySem.strKind_is P w (sg a) t))) c
    by_cases c1 : i = a1
    · rw [if_pos c1, List.find?_cons_of_pos (by show Value.isStrOf _ _ = true; rw [is_]; exact decide_eq_true c1)]
      exact ⟨t2, rfl⟩
    · rw [if_neg c1, List.find?_cons_of_neg (by show ¬ Value.isStrOf _ _ = true; rw [is_, decide_eq_false c1]; exact Bool.false_ne_true)]
      by_cases c2 : i = a2
      · rw [if_pos c2, List.find?_cons_of_pos (by show Value.isStrOf _ _ = true; rw [is_]; exact decide_eq_true c2)]
        exact ⟨t4, rfl⟩
      · rw [if_neg c2, List.find?_cons_of_neg (by show ¬ Value.isStrOf _ _ = true; rw [is_, decide_eq_false c2]; exact Bool.false_ne_true)]
        trivial
/-! ### escape_ranges -/
structure TxE (P : Program) (w : World) (K : PySem.W.Frag) (mg : Str → Option Value) : Prop where
  lst : ∃ t, mg "LISTED_ESCAPES" = some (.str zCls t)
  ctrl : ∃ d, mg "CONTROL_VALUES" = some (.ref d) ∧ KDic K d ∧ ∀ i : Nat, KAt P w K d (.str (sg i)) (if i = 110 then some (.int 10) else if i = 116 then some (.int 9) else none)
  ord : mg "ord" = none
theorem pe_gs {X : Cx} {x : Str} {z : Str} {pos : Pos} (h : ∃ t, X.mg x = some (.str z t)) (hg : Gl X x := by rfl) (hd : (x == ("__debug__" : Str)) = false := by decide) : PE X (.Name x pos) (tC (.str z)) := by
  obtain ⟨t, h⟩ := h
  exact pe_glob hg h ⟨t, rfl⟩ hd
abbrev sER : Stmt := top i_escape_ranges
section
variable {P : Program} {w : World} {K : PySem.W.Frag} {mg : Str → Option Value} {base : Heap} {C CF fI : Addr}
@[irreducible] def spEsc (K : PySem.W.Frag) : Sp := fun vs H Q _ => ∃ c : Nat, vs = [.str (sg c)] ∧ GivesR K H Q (escL c)
theorem scER : FnScope ["sign"] ["sign"] (defScope sER) := ⟨rfl, rfl, rfl, by decide +kernel, rfl, by decide +kernel, by decide +kernel⟩
theorem esc_use {c : Nat} {H : Hp} {Q : VK} {E : XK} (h : GivesR K H Q (escL c)) : spEsc K [.str (sg c)] H Q E := by
  unfold spEsc
  exact ⟨c, rfl, h⟩
theorem ok_esc {f : Addr} {fd : FuncData} (F : Fun K "escape_ranges" "escape_ranges" sER f fd) (T : TxE P w K mg) (G1 : GOk P w K mg base CX0 3 "listed_ranges" ["sign"] (spListed K)) (G2 : GOk P w K mg base CX0 2 "just_one" ["value"] (spJust K)) :
    FnOk P w K mg base CX0 4 f fd ["sign"] (spEsc K) := by
  obtain ⟨d, hd1, hd2, hd3⟩ := T.ctrl
  obtain ⟨f1, fd1, gg1, k1, b1, G1⟩ := G1
  obtain ⟨f2, fd2, gg2, k2, b2, G2⟩ := G2
  refine F.ok scER (fun vs H Q E h => ?_) (fun cdv A outer s H vs Q E hr h => ⟨_, pss_cons (ps_if (pt_cmpR op_in_sign (pv 0) (pe_gs T.lst) (by rfl)) (pss_one (ps_ret (pe_call G1 hr rfl gg1 k1 b1 .nil pass0 (by exact (pa_cons (pv 0) pa_nil))))) pss_nil)
      (pss_one (ps_ret (pe_call G2 (hr.mono (by decide)) rfl gg2 k2 b2 .nil pass0 (by exact (pa_cons (pe_kget2 (pe_glob (v := .ref d) rfl hd1 rfl) (pv 0) (pe_callB call_ord (by rfl) T.ord (by decide +kernel) (pa_cons (pv 0) pa_nil)) ⟨by rfl, by rfl, by rfl, by rfl⟩) pa_nil))))), ?_⟩)
  · unfold spEsc at h
    obtain ⟨_, rfl, _⟩ := h
    rfl
  · unfold spEsc at h
    obtain ⟨c, rfl, hQ⟩ := h
    refine ⟨_, rfl, c, zCls, rfl, rfl, ?_⟩
    unfold escL at hQ
    by_cases hc : (cds zCls).contains c = true
    · rw [if_pos hc] at hQ
      exact ⟨_, rfl, if_true_of (decide_eq_true (List.contains_iff_mem.mp hc)) ⟨_, rfl, listed_use (List.contains_iff_mem.mp hc) hQ⟩⟩
    · rw [if_neg hc] at hQ
      refine ⟨_, rfl, if_false_of (decide_eq_false fun h => hc (List.contains_iff_mem.mpr h)) ?_⟩
      refine ⟨_, rfl, hd2, _, rfl, _, rfl, _, rfl, rfl, _, hd3 _, ?_⟩
      unfold escV at hQ
      by_cases c1 : c = 110
      · rw [if_pos c1] at hQ ⊢
        exact just_use (v := 10) hQ
      · rw [if_neg c1] at hQ ⊢
        by_cases c2 : c = 116
        · rw [if_pos c2] at hQ ⊢
          exact just_use (v := 9) hQ
        · rw [if_neg c2] at hQ ⊢
          exact just_use hQ
end
end Pat
end

section
namespace Pat
open PySem PySem.Spec PyProof.Rows L2
open PySem.FaultX (FaultTxt)
open PatUtf (Fault)
open PatWords (valueP oneP partsP)
theorem at_sign {z : Str} {n : UInt8} (h : ∀ k < 256, (fun c : UInt8 => (cds z).contains c.toNat == decide (c = n)) (UInt8.ofNat k) = true) (c : UInt8) : (cds z).contains c.toNat = decide (c = n) :=
  beq_iff_eq.mp (u8_all (p := fun c => (cds z).contains c.toNat == decide (c = n)) h c)
/-- the sign behind a backslash -/
def escT (z : Str) (g : List UInt8) (p : Nat) : Except Fault (Nat × Nat) := match g[p + 1]? with
  | none => .error ⟨1, p + 1⟩
  | some d => if (cds z).contains d.toNat = true then .ok (d.toNat, p + 2) else .error ⟨2, p + 1⟩
def retT (r : Except Fault (Nat × Nat)) : Except Fault (V × Nat) := match r with
  | .error e => .error e
  | .ok (x, q) => .ok (.str (sg x), q)
theorem oneE_esc {z : Str} {g : List UInt8} {p : Nat} (h : g[p]? = some 92) : oneE z g p = (match escT z g p with
    | .error e => .error e
    | .ok (x, q) => .ok (escL x, q)) := by
  unfold oneE escT
  rw [h]
  dsimp only
  rw [if_pos rfl]
  cases g[p + 1]? with
  | none => rfl
  | some d =>
    dsimp only
    by_cases c : (cds z).contains d.toNat = true
    · rw [if_pos c, if_pos c]
    · rw [if_neg c, if_neg c]
theorem oneE_plain {z : Str} {g : List UInt8} {p : Nat} (h : g[p]? ≠ some 92) : oneE z g p = plainE zSet g p := by
  unfold oneE plainE
  cases e : g[p]? with
  | none => rfl
  | some c =>
    rw [e] at h
    dsimp only
    rw [if_neg (fun x => h (by rw [x]))]
    all_goals
      by_cases hc : (cds zSet).contains c.toNat = true
      · rw [if_pos hc, if_pos hc]
      · rw [if_neg hc, if_neg hc]
        cases valueP p (g.drop p) with
        | error e => rfl
        | ok y => rfl
theorem takeE_yes {z : Str} {g : List UInt8} {p : Nat} {c : UInt8} (h : g[p]? = some c) (hc : (cds z).contains c.toNat = true) : takeE z g p = .ok (.str (sg c.toNat), p + 1) := by
  unfold takeE
  rw [h]
  dsimp only
  rw [if_pos hc]
theorem takeE_no {z : Str} {g : List UInt8} {p : Nat} {c : UInt8} (h : g[p]? = some c) (hc : (cds z).contains c.toNat = false) : takeE z g p = .error ⟨2, p⟩ := by
  unfold takeE
  rw [h]
  dsimp only
  rw [if_neg (by rw [hc]; exact Bool.false_ne_true)]
theorem takeE_end {z : Str} {g : List UInt8} {p : Nat} (h : g[p]? = none) : takeE z g p = .error ⟨1, p⟩ := by
  unfold takeE
  rw [h]
theorem lt_of_some {g : List UInt8} {p : Nat} {c : UInt8} (h : g[p]? = some c) : p < g.length := (List.getElem?_eq_some_iff.mp h).1
section
variable {P : Program} {w : World} {K : PySem.W.Frag} {mg : Str → Option Value} {base : Heap} {C CF fI : Addr} {H H1 H2 : Hp} {a dx ag an ab : Addr} {p q : Nat} {g : List UInt8} {z : Str} {Q : VK} {E : XK}
/-! ### take_escape -/
@[irreducible] def spEscape (K : PySem.W.Frag) (C CF : Addr) : Sp := fun vs H Q E => ∃ (a dx ag : Addr) (p : Nat) (an ab : Addr) (g : List UInt8) (z : Str), vs = [.ref a, .str z] ∧ At K C H a dx ag p an ab g ∧ g[p]? = some 92 ∧ Ret C CF a dx ag an ab H Q E (retT (escT z g p))
theorem escape_use (h : At K C H a dx ag p an ab g) (h92 : g[p]? = some 92) (r : Ret C CF a dx ag an ab H Q E (retT (escT z g p))) : spEscape K C CF [.ref a, .str z] H Q E := by
  unfold spEscape
  exact ⟨a, dx, ag, p, an, ab, g, z, rfl, h, h92, r⟩
theorem scEscape : FnScope ["self", "escapes"] ["self", "escapes"] (defScope (sR 5)) := ⟨rfl, rfl, rfl, by decide +kernel, rfl, by decide +kernel, by decide +kernel⟩
theorem ok_escape {f : Addr} {fd : FuncData} (F : Fun K "take_escape" "Reader.take_escape" (sR 5) f fd) (T : Txt K mg C CF fI) (M1 : MOk P w K mg base (L2N.CX P w) C 3 "take" ["self", "signs"] (spTake K C CF)) :
    FnOk P w K mg base (L2N.CX P w) 4 f fd ["self", "escapes"] (spEscape K C CF) := by
  obtain ⟨f1, fd1, m1, b1, G1⟩ := M1
  refine F.okN scEscape (fun vs H Q E h => ?_) (fun cdv A outer s H vs Q E hr h => ⟨_, pss_cons (ps_expr (pe_meth (pv 0) T.cl m1 G1 hr b1 .nil (L2N.passes_call (L2N.takes_of rfl rfl rfl rfl) (fun _ _ _ _ h => h)) (by exact (pa_cons pe_str pa_nil))))
      (pss_one (ps_ret (pe_meth (pv 0) T.cl m1 G1 hr b1 .nil (L2N.passes_call (L2N.takes_of rfl rfl rfl rfl) (fun _ _ _ _ h => h)) (by exact (pa_cons (pv 1) pa_nil))))), ?_⟩)
  · unfold spEscape at h
    obtain ⟨_, _, _, _, _, _, _, _, rfl, _⟩ := h
    rfl
  · unfold spEscape at h
    obtain ⟨a, dx, ag, p, an, ab, g, z, rfl, h, h92, hQ⟩ := h
    have hlt := lt_of_some h92
    refine ⟨_, rfl, a, dx, _, rfl, h.1, rF_no (by decide +kernel), ?_⟩
    refine take_use h ?_
    rw [takeE_yes h92 (by decide +kernel)]
    intro H1 r1 k1
    have h1 := h.next r1 k1 (by omega)
    refine ⟨_, rfl, a, dx, _, rfl, h1.1, rF_no (by decide +kernel), _, rfl, ?_⟩
    refine take_use h1 ?_
    unfold escT at hQ
    cases hd : g[p + 1]? with
    | none =>
      rw [hd] at hQ
      rw [takeE_end hd]
      exact hQ
    | some d =>
      rw [hd] at hQ
      dsimp only at hQ
      by_cases hc : (cds z).contains d.toNat = true
      · rw [if_pos hc] at hQ
        rw [takeE_yes hd hc]
        intro H2 r2 k2
        have hQ' : ∀ H', RAt C H' a dx ag (p + 2) an ab → Kept H H' a → Q (.str (sg d.toNat)) H' := hQ
        exact hQ' H2 r2 (k1.trans k2)
      · rw [if_neg hc] at hQ
        rw [takeE_no hd (by simpa using hc)]
        exact hQ
/-! ### take_one -/
@[irreducible] def spOne (K : PySem.W.Frag) (C CF : Addr) : Sp := fun vs H Q E => ∃ (a dx ag : Addr) (p : Nat) (an ab : Addr) (g : List UInt8) (z : Str), vs = [.ref a, .str z] ∧ At K C H a dx ag p an ab g ∧ RetR K C CF a dx ag an ab H Q E (oneE z g p)
theorem one_use (h : At K C H a dx ag p an ab g) (r : RetR K C CF a dx ag an ab H Q E (oneE z g p)) : spOne K C CF [.ref a, .str z] H Q E := by
  unfold spOne
  exact ⟨a, dx, ag, p, an, ab, g, z, rfl, h, r⟩
theorem plain_use (h : At K C H a dx ag p an ab g) (hz : (cds z).length ≤ 1000) (r : RetR K C CF a dx ag an ab H Q E (plainE z g p)) : spPlain K C CF [.ref a, .str z] H Q E := by
  unfold spPlain
  exact ⟨a, dx, ag, p, an, ab, g, z, rfl, h, hz, r⟩
theorem scOne : FnScope ["self", "escapes"] ["self", "escapes"] (defScope (sR 6)) := ⟨rfl, rfl, rfl, by decide +kernel, rfl, by decide +kernel, by decide +kernel⟩
theorem ok_one {f : Addr} {fd : FuncData} (F : Fun K "take_one" "Reader.take_one" (sR 6) f fd) (T : Txt K mg C CF fI) (hS : ∃ t, mg "SET_SIGNS" = some (.str zSet t))
    (M1 : MOk P w K mg base CX0 C 2 "at" ["self", "signs"] (spAt K C)) (M2 : MOk P w K mg base (L2N.CX P w) C 4 "take_escape" ["self", "escapes"] (spEscape K C CF))
    (M3 : MOk P w K mg base (L2N.CX P w) C 4 "take_plain" ["self", "barred"] (spPlain K C CF)) (G4 : GOk P w K mg base CX0 4 "escape_ranges" ["sign"] (spEsc K)) : FnOk P w K mg base (L2N.CX P w) 5 f fd ["self", "escapes"] (spOne K C CF) := by
  obtain ⟨f1, fd1, m1, b1, G1⟩ := M1
  obtain ⟨f2, fd2, m2, b2, G2⟩ := M2
  obtain ⟨f3, fd3, m3, b3, G3⟩ := M3
  obtain ⟨f4, fd4, gg4, k4, b4, G4⟩ := G4
  refine F.okN scOne (fun vs H Q E h => ?_) (fun cdv A outer s H vs Q E hr h => ⟨_, pss_cons (ps_if (pt_val (pe_meth (pv 0) T.cl m1 G1 (hr.mono (by decide)) b1 .nil pass0 (pa_cons pe_str pa_nil)))
        (pss_one (ps_ret (pe_call G4 hr rfl gg4 k4 b4 .nil pass0 (by exact (pa_cons (pe_meth (pv 0) T.cl m2 G2 hr b2 .nil (L2N.passes_call (L2N.takes_of rfl rfl rfl rfl) (fun _ _ _ _ h => h)) (by exact (pa_cons (pv 1) pa_nil))) pa_nil))))) pss_nil)
      (pss_one (ps_ret (pe_meth (pv 0) T.cl m3 G3 hr b3 .nil (L2N.passes_call (L2N.takes_of rfl rfl rfl rfl) (fun _ _ _ _ h => h)) (by exact (pa_cons (pe_gs hS) pa_nil))))), ?_⟩)
  · unfold spOne at h
    obtain ⟨_, _, _, _, _, _, _, _, rfl, _⟩ := h
    rfl
  · unfold spOne at h
    obtain ⟨a, dx, ag, p, an, ab, g, z, rfl, h, hQ⟩ := h
    refine ⟨_, rfl, a, dx, _, rfl, h.1, rF_no (by decide +kernel), ?_⟩
    refine at_use h (by decide +kernel) fun H1 s1 => ?_
    have h1 := h.same s1
    have hQ1 := RetR.mono hQ (Kept.of_same s1) h1.1
    refine ⟨_, rfl, ?_⟩
    by_cases c : g[p]? = some 92
    · refine if_true_of (by rw [isAt_some c, at_sign (n := 92) (by decide +kernel)]; rfl) ?_
      refine ⟨_, rfl, a, dx, _, rfl, h1.1, rF_no (by decide +kernel), _, rfl, ?_⟩
      rw [oneE_esc c] at hQ1
      refine escape_use h1 c ?_
      cases e : escT z g p with
      | error x => rw [e] at hQ1; exact hQ1
      | ok y =>
        obtain ⟨x, q⟩ := y
        rw [e] at hQ1
        have hQ' : ∀ H' v, RAt C H' a dx ag q an ab → Kept H1 H' a → RgNew K H1 H' v (escL x) → Q v H' := hQ1
        intro H2 r2 k2
        refine esc_use fun H3 v s3 ⟨ar, e1, e2, e3⟩ => ?_
        exact hQ' H3 v (s3 _ _ r2) (k2.trans (Kept.of_same s3)) ⟨ar, e1, none_kept k2 r2 e2, e3⟩
    · refine if_false_of ?_ ?_
      · cases e : g[p]? with
        | none => exact isAt_none e
        | some d =>
          rw [isAt_some e, at_sign (n := 92) (by decide +kernel)]
          exact decide_eq_false fun x => c (by rw [e, x])
      · refine ⟨_, rfl, a, dx, _, rfl, h1.1, rF_no (by decide +kernel), ?_⟩
        rw [oneE_plain c] at hQ1
        exact plain_use h1 (by decide +kernel) hQ1
end
end Pat
end

section
namespace Pat
open PySem PySem.Spec PyProof.Rows L2
open PySem.FaultX (FaultTxt)
open PatUtf (Fault)
open PatWords (valueP oneP partsP)
section
variable {P : Program} {w : World} {K : PySem.W.Frag} {mg : Str → Option Value} {base : Heap} {C CF fI : Addr} {H H1 H2 : Hp} {a dx ag an ab : Addr} {p q : Nat} {g : List UInt8} {z : Str} {Q : VK} {E : XK}
/-! ### take_part -/
@[irreducible] def spGoR (K : PySem.W.Frag) (C CF : Addr) (f : List UInt8 → Nat → Except Fault (List (Nat × Nat) × Nat)) : Sp := fun vs H Q E => ∃ (a dx ag : Addr) (p : Nat) (an ab : Addr) (g : List UInt8), vs = [.ref a] ∧ At K C H a dx ag p an ab g ∧ RetR K C CF a dx ag an ab H Q E (f g p)
theorem goR_use {f : List UInt8 → Nat → Except Fault (List (Nat × Nat) × Nat)} (h : At K C H a dx ag p an ab g) (r : RetR K C CF a dx ag an ab H Q E (f g p)) : spGoR K C CF f [.ref a] H Q E := by
  unfold spGoR
  exact ⟨a, dx, ag, p, an, ab, g, rfl, h, r⟩
theorem goR_len {f : List UInt8 → Nat → Except Fault (List (Nat × Nat) × Nat)} {vs : List V} (h : spGoR K C CF f vs H Q E) : vs.length = 1 := by
  unfold spGoR at h
  obtain ⟨_, _, _, _, _, _, _, rfl, _⟩ := h
  rfl
theorem sqt_kept {K : PySem.W.Frag} {H H' : Hp} {a t dx C : Addr} {fs : List (Str × V)} {xs : List V} (h : SqT K H t xs) (e : H a = some (.ins C dx fs)) (k : Kept H H' a) : SqT K H' t xs := by
  rcases h with (h | ⟨o, h⟩) | h
  · exact .inl (.inl (k _ _ h (ne_of h e (by intro z; cases z))))
  · exact .inl (.inr ⟨o, k _ _ h (ne_of h e (by intro z; cases z))⟩)
  · exact .inr h
theorem RgAt.kept {ar : Addr} {l : List (Nat × Nat)} {fs : List (Str × V)} {x dy D : Addr} (h : RgAt K H ar l) (e : H x = some (.ins D dy fs)) (k : Kept H H1 x) : RgAt K H1 ar l := by
  obtain ⟨ts, h1, h2⟩ := h
  exact ⟨ts, k _ _ h1 (ne_of h1 e (by intro z; cases z)), Tups.map (fun _ _ h => sqt_kept h e k) h2⟩
theorem scPart : FnScope ["self", "first_place", "first", "last"] ["self"] (defScope (sR 7)) := ⟨rfl, rfl, rfl, by decide +kernel, rfl, by decide +kernel, by decide +kernel⟩
theorem ok_part {f : Addr} {fd : FuncData} (F : Fun K "take_part" "Reader.take_part" (sR 7) f fd) (T : Txt K mg C CF fI) (hS1 : ∃ t, mg "PART_ESCAPES" = some (.str zPart t)) (hS2 : ∃ t, mg "END_ESCAPES" = some (.str zEnd t)) (k6 : ∃ t, mg "ENDS_IN_WRONG_ORDER" = some (.int 6 t))
    (M1 : MOk P w K mg base CX0 C 2 "at" ["self", "signs"] (spAt K C)) (M2 : MOk P w K mg base (L2N.CX P w) C 5 "take_one" ["self", "escapes"] (spOne K C CF))
    (M3 : MOk P w K mg base (L2N.CX P w) C 3 "take" ["self", "signs"] (spTake K C CF)) (G4 : GOk P w K mg base CX0 2 "is_just_one" ["ranges"] (spIsJ K)) : FnOk P w K mg base (L2N.CX P w) 6 f fd ["self"] (spGoR K C CF partE) := by
  obtain ⟨f1, fd1, m1, b1, G1⟩ := M1
  obtain ⟨f2, fd2, m2, b2, G2⟩ := M2
  obtain ⟨f3, fd3, m3, b3, G3⟩ := M3
  obtain ⟨f4, fd4, gg4, k4, b4, G4⟩ := G4
  refine F.okN scPart (fun vs H Q E h => goR_len h) (fun cdv A outer s H vs Q E hr h => ⟨_, pss_cons (ps_set (i := 1) scPart.nd rfl (Or.inl rfl) (pe_fld (pv 0) rfl))
      (pss_cons (ps_set (i := 2) scPart.nd rfl (Or.inl rfl) (pe_meth (pv 0) T.cl m2 G2 hr b2 .nil (L2N.passes_call (L2N.takes_of rfl rfl rfl rfl) (fun _ _ _ _ h => h)) (by exact (pa_cons (pe_gs hS1) pa_nil))))
      (pss_cons (ps_if (PW.pt (pw_or (pt_not (pt_val (pe_call G4 (hr.mono (by decide)) rfl gg4 k4 b4 .nil pass0 (by exact (pa_cons (pv 2) pa_nil))))) (pw_or1 (pt_not (pt_val (pe_meth (pv 0) T.cl m1 G1 (hr.mono (by decide)) b1 .nil pass0 (pa_cons pe_str pa_nil)))))))
        (pss_one (ps_ret (pv 2))) pss_nil)
      (pss_cons (ps_expr (pe_meth (pv 0) T.cl m3 G3 (hr.mono (by decide)) b3 .nil (L2N.passes_call (L2N.takes_of rfl rfl rfl rfl) (fun _ _ _ _ h => h)) (by exact (pa_cons pe_str pa_nil))))
      (pss_cons (ps_set (i := 3) scPart.nd rfl (Or.inl rfl) (pe_meth (pv 0) T.cl m2 G2 hr b2 .nil (L2N.passes_call (L2N.takes_of rfl rfl rfl rfl) (fun _ _ _ _ h => h)) (by exact (pa_cons (pe_gs hS2) pa_nil))))
      (pss_cons (ps_if (pt_cmpR op_gt (pe_ix ix_tup (pe_ix ix_list (pv 2) pe_int (fun _ _ => rfl)) pe_int (fun _ _ => rfl)) (pe_ix ix_tup (pe_ix ix_list (pv 3) pe_int (fun _ _ => rfl)) pe_int (fun _ _ => rfl)) (nomark _))
            (pss_one (ps_raiseFault rfl T.ft hr (L2N.takes_of rfl rfl rfl rfl) (by exact (pa_cons (pe_gi k6) (pa_cons (pv 1) pa_nil))))) pss_nil)
      (pss_one (ps_ret (pe_lst (pa_cons (pe_tup (pa_cons (pe_ix ix_tup (pe_ix ix_list (pv 2) pe_int (fun _ _ => rfl)) pe_int (fun _ _ => rfl)) (pa_cons (pe_ix ix_tup (pe_ix ix_list (pv 3) pe_int (fun _ _ => rfl)) pe_int (fun _ _ => rfl)) pa_nil))) pa_nil))))))))), ?_⟩)
  unfold spGoR at h
  obtain ⟨a, dx, ag, p, an, ab, g, rfl, h, hQ⟩ := h
  refine ⟨_, rfl, a, C, dx, _, _, rfl, h.1, T.cl, T.nP, rF_place, ?_⟩
  refine ⟨_, rfl, a, dx, _, rfl, h.1, rF_no (by decide +kernel), ?_⟩
  refine one_use h ?_
  unfold partE at hQ
  cases e1 : oneE zPart g p with
  | error x => rw [e1] at hQ; exact hQ
  | ok y =>
    obtain ⟨l, q⟩ := y
    obtain ⟨hpq, hql⟩ := oneE_ok e1
    have hne := oneE_ne e1
    rw [e1] at hQ
    dsimp only at hQ
    rintro H1 _ r1 k1 ⟨ar, rfl, har, hrg⟩
    have h1 := h.next r1 k1 hql
    refine ⟨_, rfl, ?_⟩
    refine isj_use hrg hne ⟨_, rfl, ?_⟩
    cases ej : isJust l with
    | false =>
      rw [ej, if_neg (fun x => Bool.false_ne_true x.1)] at hQ
      have hQ' : ∀ H' v, RAt C H' a dx ag q an ab → Kept H H' a → RgNew K H H' v l → Q v H' := hQ
      exact if_true_of rfl (if_true_of rfl ⟨_, rfl, hQ' H1 _ r1 k1 ⟨ar, rfl, har, hrg⟩⟩)
    | true =>
      refine if_false_of rfl ?_
      refine ⟨_, rfl, a, dx, _, rfl, h1.1, rF_no (by decide +kernel), ?_⟩
      refine at_use h1 (by decide +kernel) fun H2 s2 => ?_
      have h2 := h1.same s2
      have k2 := k1.trans (Kept.of_same s2)
      have hrg2 := hrg.same s2
      refine ⟨_, rfl, ?_⟩
      cases ea : isAt g q "-" with
      | false =>
        rw [ea, if_neg (fun x => Bool.false_ne_true x.2)] at hQ
        have hQ' : ∀ H' v, RAt C H' a dx ag q an ab → Kept H H' a → RgNew K H H' v l → Q v H' := hQ
        exact if_true_of rfl ⟨_, rfl, hQ' H2 _ h2.1 k2 ⟨ar, rfl, har, hrg2⟩⟩
      | true =>
        rw [ea, if_pos ⟨ej, rfl⟩] at hQ
        refine if_false_of rfl ?_
        obtain ⟨d, hd, hd45⟩ : ∃ d, g[q]? = some d ∧ (cds "-").contains d.toNat = true := by
          cases e : g[q]? with
          | none => rw [isAt_none e] at ea; cases ea
          | some d => rw [isAt_some e] at ea; exact ⟨d, rfl, ea⟩
        have hlt := lt_of_some hd
        refine ⟨_, rfl, a, dx, _, rfl, h2.1, rF_no (by decide +kernel), ?_⟩
        refine take_use h2 ?_
        rw [takeE_yes hd hd45]
        intro H3 r3 k3
        have h3 := h2.next r3 k3 (by omega)
        have k13 := k2.trans k3
        have hrg3 := hrg2.kept h2.1 k3
        refine ⟨_, rfl, a, dx, _, rfl, h3.1, rF_no (by decide +kernel), ?_⟩
        refine one_use h3 ?_
        cases e2 : oneE zEnd g (q + 1) with
        | error x => rw [e2] at hQ; exact hQ
        | ok y2 =>
          obtain ⟨m, k⟩ := y2
          have hnm := oneE_ne e2
          rw [e2] at hQ
          dsimp only at hQ
          rintro H4 _ r4 k4 ⟨am, rfl, ham, hrm⟩
          have hrg4 := hrg3.kept h3.1 k4
          obtain ⟨ts, t, a1, a2, a3⟩ := hrg4.first hne
          obtain ⟨us, u, b1, b2, b3⟩ := hrm.first hnm
          refine ⟨_, rfl, ar, _, _, _, rfl, rfl, a1, a2, t, _, _, _, rfl, rfl, a3, rfl, ?_⟩
          refine ⟨_, rfl, am, _, _, _, rfl, rfl, b1, b2, u, _, _, _, rfl, rfl, b3, rfl, ?_⟩
          refine ⟨_, _, rfl, rfl, _, rfl, ?_⟩
          by_cases c : (m.head?.getD (0, 0)).2 < (l.head?.getD (0, 0)).1
          · rw [if_pos c] at hQ
            have hQ' : Out CF ⟨6, p⟩ E := hQ
            exact if_true_of (decide_eq_true (by omega)) ⟨_, rfl, _, _, rfl, fun d hd => hQ' d _ upd_same⟩
          · rw [if_neg c] at hQ
            have hQ' : ∀ H' v, RAt C H' a dx ag k an ab → Kept H H' a → RgNew K H H' v [((l.head?.getD (0, 0)).1, (m.head?.getD (0, 0)).2)] → Q v H' := hQ
            refine if_false_of (decide_eq_false (by omega)) ?_
            refine ⟨_, rfl, ar, _, _, _, rfl, rfl, a1, a2, t, _, _, _, rfl, rfl, a3, rfl, ?_⟩
            refine ⟨_, rfl, am, _, _, _, rfl, rfl, b1, b2, u, _, _, _, rfl, rfl, b3, rfl, ?_⟩
            refine ⟨by show 2 ≤ sizeLine; decide, fun z hz => ⟨by show 1 ≤ sizeLine; decide, fun o ho => ?_⟩⟩
            have hoz : o ≠ z := fun e => by rw [e, upd_same] at ho; cases ho
            have ho4 : H4 o = none := by rw [upd_ne hoz] at ho; exact ho
            have ss := Same.trans (Same.upd (o := HO.tup [V.int ((l.head?.getD (0, 0)).1 : Nat), V.int ((m.head?.getD (0, 0)).2 : Nat)]) hz) (Same.upd (o := HO.lst [V.ref z]) ho)
            refine hQ' _ _ (ss _ _ r4) ((k13.trans k4).trans (Kept.of_same ss)) ⟨o, rfl, none_kept (k13.trans k4) r4 ho4, [z], upd_same, ?_, trivial⟩
            exact SqT.of ((upd_ne hoz.symm).trans upd_same)
end
end Pat
end

section
namespace Pat
open PySem PySem.Spec PyProof.Rows L2
open PySem.FaultX (FaultTxt)
open PatUtf (Fault)
open PatWords (Name)
open Ways (WF FwdW FitsW FitAll oneWF seqsWF altsWF repWF capWF)
/-! ### parts in the heap -/
/-- all but what stands at some addresses is as it was -/
def KeptL (H H' : Hp) (S : List Addr) : Prop := ∀ b o, H b = some o → b ∉ S → H' b = some o
theorem KeptL.of_same {H H' : Hp} {S : List Addr} (s : Same H H') : KeptL H H' S := fun b o h _ => s b o h
theorem KeptL.trans {H H1 H2 : Hp} {S : List Addr} (x : KeptL H H1 S) (y : KeptL H1 H2 S) : KeptL H H2 S := fun b o h n => y b o (x b o h n) n
theorem KeptL.upd {H H1 : Hp} {S : List Addr} {a : Addr} {o : HO} (k : KeptL H H1 S) (m : a ∈ S) : KeptL H (upd H1 a o) S := fun b u h n => by
  rw [upd_ne (fun e => n (by rw [e]; exact m))]
  exact k b u h n
theorem KeptL.new {H H1 : Hp} {S : List Addr} {a : Addr} {o : HO} (k : KeptL H H1 S) (h0 : H a = none) : KeptL H (L2.upd H1 a o) S := fun b u h n => by
  rw [upd_ne (ne_of_none h h0)]
  exact k b u h n
theorem KeptL.of_kept {H H' : Hp} {a : Addr} {S : List Addr} (k : Kept H H' a) (m : a ∈ S) : KeptL H H' S := fun b o h n => k b o h fun e => n (by rw [e]; exact m)
theorem Same.of_keptL {H H' : Hp} (k : KeptL H H' []) : Same H H' := fun b o h => k b o h (List.not_mem_nil)
/-- the six classes -/
structure Cs where
  o : Addr
  s : Addr
  r : Addr
  c : Addr
  p : Addr
  k : Addr
inductive Kd where
  | one (ar : Addr) (l : List (Nat × Nat)) (neg : Bool)
  | stand (z : Str)
  | row (al : Addr) (bs : List Addr)
  | choice (al : Addr) (bs : List Addr)
  | rep (b : Addr) (m : Nat) (n : Option Nat)
  | cap (k : Nat) (b : Addr)
def Cs.at (cs : Cs) : Kd → Addr
  | .one _ _ _ => cs.o
  | .stand _ => cs.s
  | .row _ _ => cs.r
  | .choice _ _ => cs.c
  | .rep _ _ _ => cs.p
  | .cap _ _ => cs.k
def optN : Option Nat → V
  | none => .non
  | some n => .int (n : Nat)
def nF (rg ra : Addr) : Kd → List (Str × V)
  | .one ar _ neg => [("ranges", .ref ar), ("inverted", .bl neg), ("reach", .ref rg)]
  | .stand z => [("sign", .str z), ("reach", .ref rg)]
  | .row al _ => [("steps", .ref al), ("reach", .ref rg), ("reach_after", .ref ra)]
  | .choice al _ => [("rows", .ref al), ("reach", .ref rg)]
  | .rep b m n => [("body", .ref b), ("least", .int (m : Nat)), ("most", optN n), ("reach", .ref rg), ("reach_after", .ref ra)]
  | .cap k b => [("number", .int (k : Nat)), ("body", .ref b), ("reach", .ref rg)]
structure Info where
  dx : Addr
  kd : Kd
  d : Nat
  wf : WF
abbrev PM := Addr → Option Info
/-- what a part leans on -/
def Aux (K : PySem.W.Frag) (F : Hp) : Kd → Prop
  | .one ar l _ => RgAt K F ar l
  | .row al bs => F al = some (.lst (bs.map V.ref))
  | .choice al bs => F al = some (.lst (bs.map V.ref))
  | _ => True
theorem Aux.same {K : PySem.W.Frag} {F F' : Hp} {k : Kd} (h : Aux K F k) (s : Same F F') : Aux K F' k := by
  cases k with
  | one ar l neg => exact RgAt.same h s
  | row al bs => exact s _ _ h
  | choice al bs => exact s _ _ h
  | stand z => exact h
  | rep b m n => exact h
  | cap k b => exact h
def standW (z : Str) : WF := if z = "^" then fun _ i => if i = 0 then [(i, [])] else [] else if z = "$" then fun t i => if i = t.length then [(i, [])] else [] else fun t i => if PatWords.isEdge t i = true then [(i, [])] else []
/-- the parts that a part is made of -/
def Kids (M : PM) (d : Nat) : List Addr → List WF → Prop
  | [], [] => True
  | b :: bs, w :: ws => (∃ i, M b = some i ∧ i.d < d ∧ i.wf = w) ∧ Kids M d bs ws
  | _, _ => False
/-- what a part's ways are made of -/
def Stat (nm : List Name) (M : PM) (i : Info) : Prop := match i.kd with
  | .one _ l neg => i.wf = oneWF l neg
  | .stand z => (z = "^" ∨ z = "$" ∨ z = "b") ∧ i.wf = standW z
  | .row _ bs => bs.length ≤ 1000 ∧ ∃ ws, Kids M i.d bs ws ∧ i.wf = seqsWF ws
  | .choice _ bs => bs.length ≤ 1000 ∧ ∃ ws, Kids M i.d bs ws ∧ i.wf = altsWF ws
  | .rep b m n => m ≤ 20 ∧ (∀ k, n = some k → m ≤ k ∧ k ≤ 20) ∧ ∃ j, M b = some j ∧ j.d < i.d ∧ i.wf = repWF j.wf m n
  | .cap k b => ∃ j n, M b = some j ∧ j.d < i.d ∧ nm[k]? = some n ∧ i.wf = capWF n j.wf
theorem Kids.mono {M M' : PM} (h : ∀ b i, M b = some i → M' b = some i) {d d' : Nat} (hd : d ≤ d') : ∀ {bs : List Addr} {ws : List WF}, Kids M d bs ws → Kids M' d' bs ws
  | [], [], _ => trivial
  | [], _ :: _, h => h.elim
  | _ :: _, [], h => h.elim
  | _ :: _, _ :: _, ⟨⟨i, h1, h2, h3⟩, h4⟩ => ⟨⟨i, h _ _ h1, Nat.lt_of_lt_of_le h2 hd, h3⟩, Kids.mono h hd h4⟩
theorem Stat.mono {nm nm' : List Name} {M M' : PM} {i : Info} (hs : Stat nm M i) (h : ∀ b i, M b = some i → M' b = some i) (hn : ∀ (k : Nat) (n : Name), nm[k]? = some n → nm'[k]? = some n) : Stat nm' M' i := by
  unfold Stat at hs ⊢
  split at hs
  · exact hs
  · exact hs
  · obtain ⟨h0, ws, h1, h2⟩ := hs
    exact ⟨h0, ws, Kids.mono h (Nat.le_refl _) h1, h2⟩
  · obtain ⟨h0, ws, h1, h2⟩ := hs
    exact ⟨h0, ws, Kids.mono h (Nat.le_refl _) h1, h2⟩
  · obtain ⟨h0, h00, j, h1, h2, h3⟩ := hs
    exact ⟨h0, h00, j, h _ _ h1, h2, h3⟩
  · obtain ⟨j, n, h1, h2, h3, h4⟩ := hs
    exact ⟨j, n, h _ _ h1, h2, hn _ _ h3, h4⟩
/-- all parts that have been made: as they stand in what is frozen -/
structure Wd (K : PySem.W.Frag) (cs : Cs) (M : PM) (F : Hp) (nm : List Name) : Prop where
  node : ∀ b i, M b = some i → (∃ rg ra, F b = some (.ins (cs.at i.kd) i.dx (nF rg ra i.kd))) ∧ Aux K F i.kd
  stat : ∀ b i, M b = some i → Stat nm M i
  fwd : ∀ b i, M b = some i → FwdW i.wf
theorem Wd.names {K : PySem.W.Frag} {cs : Cs} {M : PM} {F : Hp} {nm nm' : List Name} (h : Wd K cs M F nm) (hn : ∀ (k : Nat) (n : Name), nm[k]? = some n → nm'[k]? = some n) : Wd K cs M F nm' :=
  ⟨h.node, fun b i e => (h.stat b i e).mono (fun _ _ h => h) hn, h.fwd⟩
theorem Wd.same {K : PySem.W.Frag} {cs : Cs} {M : PM} {F F' : Hp} {nm : List Name} (h : Wd K cs M F nm) (s : Same F F') : Wd K cs M F' nm :=
  ⟨fun b i e => by
    obtain ⟨⟨rg, ra, h1⟩, h2⟩ := h.node b i e
    exact ⟨⟨rg, ra, s _ _ h1⟩, h2.same s⟩, h.stat, h.fwd⟩
/-- a new part -/
def addM (M : PM) (b : Addr) (i : Info) : PM := fun x => if x = b then some i else M x
theorem addM_same {M : PM} {b : Addr} {i : Info} : addM M b i b = some i := if_pos rfl
theorem addM_old {M : PM} {b : Addr} {i : Info} (h : M b = none) : ∀ x j, M x = some j → addM M b i x = some j := fun x j e => by
  unfold addM
  rw [if_neg (fun y => by rw [y, h] at e; cases e)]
  exact e
theorem Wd.add {K : PySem.W.Frag} {cs : Cs} {M : PM} {F : Hp} {nm : List Name} {b : Addr} {i : Info} (h : Wd K cs M F nm) (hb : M b = none) (h1 : ∃ rg ra, F b = some (.ins (cs.at i.kd) i.dx (nF rg ra i.kd))) (h2 : Aux K F i.kd) (h3 : Stat nm M i) (h4 : FwdW i.wf) : Wd K cs (addM M b i) F nm where
  node := fun x j e => by
    unfold addM at e
    split at e
    · rename_i ex
      cases e
      rw [ex]
      exact ⟨h1, h2⟩
    · exact h.node x j e
  stat := fun x j e => by
    unfold addM at e
    split at e
    · cases e
      exact h3.mono (addM_old hb) (fun _ _ h => h)
    · exact (h.stat x j e).mono (addM_old hb) (fun _ _ h => h)
  fwd := fun x j e => by
    unfold addM at e
    split at e
    · cases e
      exact h4
    · exact h.fwd x j e
/-! ### what is frozen -/
def isTup : Option HO → Bool
  | some (.tup _) => true
  | some (.frz _ (.tup _)) => true
  | _ => false
/-- what was frozen; and S; and all tuples -/
def frz (F H : Hp) (S : List Addr) : Hp := fun x => match F x with
  | some o => some o
  | none => if x ∈ S ∨ isTup (H x) = true then H x else none
section
variable {F H : Hp} {S : List Addr}
theorem same_frz : Same F (frz F H S) := fun b o h => by
  unfold frz
  rw [h]
theorem frz_same (s : Same F H) : Same (frz F H S) H := fun b o h => by
  unfold frz at h
  cases e : F b with
  | some u =>
    rw [e] at h
    cases h
    exact s _ _ e
  | none =>
    rw [e] at h
    dsimp only at h
    split at h
    · exact h
    · cases h
theorem frz_in {x : Addr} {o : HO} (s : Same F H) (m : x ∈ S) (h : H x = some o) : frz F H S x = some o := by
  unfold frz
  cases e : F x with
  | some u =>
    dsimp only
    rw [s _ _ e] at h
    exact h
  | none =>
    dsimp only
    rw [if_pos (.inl m)]
    exact h
theorem frz_out {x : Addr} (hF : F x = none) (m : x ∉ S) (h : isTup (H x) = false) : frz F H S x = none := by
  unfold frz
  rw [hF]
  dsimp only
  rw [if_neg (by rw [h]; simp [m])]
theorem frz_tup {K : PySem.W.Frag} (s : Same F H) {t : Addr} {xs : List V} (h : SqT K H t xs) : SqT K (frz F H S) t xs := by
  have key : ∀ o, H t = some o → isTup (H t) = true → frz F H S t = some o := fun o e it => by
    unfold frz
    cases e2 : F t with
    | some u =>
      dsimp only
      rw [s _ _ e2] at e
      exact e
    | none =>
      dsimp only
      rw [if_pos (.inr it)]
      exact e
  rcases h with (h | ⟨o, h⟩) | h
  · exact .inl (.inl (key _ h (by rw [h]; rfl)))
  · exact .inl (.inr ⟨o, key _ h (by rw [h]; rfl)⟩)
  · exact .inr h
theorem frz_rg {K : PySem.W.Frag} (s : Same F H) {ar : Addr} {l : List (Nat × Nat)} (m : ar ∈ S) (h : RgAt K H ar l) : RgAt K (frz F H S) ar l := by
  obtain ⟨ts, h1, h2⟩ := h
  exact ⟨ts, frz_in s m h1, Tups.map (fun _ _ e => frz_tup s e) h2⟩
end
/-! ### patterns of parts -/
def Fits (M : PM) (b : Addr) (p : PatWords.Pat) (D : Nat) : Prop := ∃ i, M b = some i ∧ i.d ≤ D ∧ FitsW i.wf p
def AllFit (M : PM) (D : Nat) : List Addr → List PatWords.Pat → Prop
  | [], [] => True
  | b :: bs, p :: ps => Fits M b p D ∧ AllFit M D bs ps
  | _, _ => False
theorem Fits.mono {M M' : PM} {b : Addr} {p : PatWords.Pat} {D D' : Nat} (h : Fits M b p D) (hm : ∀ b i, M b = some i → M' b = some i) (hd : D ≤ D') : Fits M' b p D' := by
  obtain ⟨i, h1, h2, h3⟩ := h
  exact ⟨i, hm _ _ h1, Nat.le_trans h2 hd, h3⟩
theorem AllFit.mono {M M' : PM} {D D' : Nat} (hm : ∀ b i, M b = some i → M' b = some i) (hd : D ≤ D') : ∀ {bs : List Addr} {ps : List PatWords.Pat}, AllFit M D bs ps → AllFit M' D' bs ps
  | [], [], _ => trivial
  | [], _ :: _, h => h.elim
  | _ :: _, [], h => h.elim
  | _ :: _, _ :: _, ⟨h1, h2⟩ => ⟨h1.mono hm hd, AllFit.mono hm hd h2⟩
theorem AllFit.len {M : PM} {D : Nat} : ∀ {bs : List Addr} {ps : List PatWords.Pat}, AllFit M D bs ps → bs.length = ps.length
  | [], [], _ => rfl
  | [], _ :: _, h => h.elim
  | _ :: _, [], h => h.elim
  | _ :: _, _ :: _, ⟨_, h2⟩ => congrArg (· + 1) (AllFit.len h2)
theorem AllFit.snoc {M : PM} {D : Nat} {b : Addr} {p : PatWords.Pat} (h : Fits M b p D) : ∀ {bs : List Addr} {ps : List PatWords.Pat}, AllFit M D bs ps → AllFit M D (bs ++ [b]) (ps ++ [p])
  | [], [], _ => ⟨h, trivial⟩
  | [], _ :: _, h => h.elim
  | _ :: _, [], h => h.elim
  | _ :: _, _ :: _, ⟨h1, h2⟩ => ⟨h1, AllFit.snoc h h2⟩
theorem AllFit.unsnoc {M : PM} {D : Nat} : ∀ {bs : List Addr} {ps : List PatWords.Pat} {p : PatWords.Pat}, AllFit M D bs (ps ++ [p]) → ∃ bs' b, bs = bs' ++ [b] ∧ AllFit M D bs' ps ∧ Fits M b p D
  | [], [], _, h => h.elim
  | [], _ :: _, _, h => h.elim
  | [b], [], _, ⟨h1, _⟩ => ⟨[], b, rfl, trivial, h1⟩
  | _ :: _ :: _, [], _, ⟨_, h2⟩ => h2.elim
  | b :: bs, q :: ps, p, ⟨h1, h2⟩ => by
    obtain ⟨bs', c, e, h3, h4⟩ := AllFit.unsnoc h2
    exact ⟨b :: bs', c, by rw [e]; rfl, ⟨h1, h3⟩, h4⟩
theorem AllFit.kids {M : PM} {D : Nat} : ∀ {bs : List Addr} {ps : List PatWords.Pat}, AllFit M D bs ps → ∃ ws, Kids M (D + 1) bs ws ∧ FitAll ws ps
  | [], [], _ => ⟨[], trivial, trivial⟩
  | [], _ :: _, h => h.elim
  | _ :: _, [], h => h.elim
  | _ :: _, _ :: _, ⟨⟨i, h1, h2, h3⟩, h4⟩ => by
    obtain ⟨ws, h5, h6⟩ := AllFit.kids h4
    exact ⟨i.wf :: ws, ⟨⟨i, h1, Nat.lt_succ_of_le h2, rfl⟩, h5⟩, h3, h6⟩
end Pat
end

section
namespace Pat
open PySem PySem.Spec PyProof.Rows L2
/-! ### parts are made -/
/-- what the top has written of the six classes: that their fields are no attributes -/
structure TxN (K : PySem.W.Frag) (cs : Cs) : Prop where
  clo : Cls K cs.o
  cls : Cls K cs.s
  clr : Cls K cs.r
  clc : Cls K cs.c
  clp : Cls K cs.p
  clk : Cls K cs.k
  o1 : NoAttr K cs.o "ranges"
  o2 : NoAttr K cs.o "inverted"
  o3 : NoAttr K cs.o "reach"
  s1 : NoAttr K cs.s "sign"
  s2 : NoAttr K cs.s "reach"
  r1 : NoAttr K cs.r "steps"
  r2 : NoAttr K cs.r "reach"
  r3 : NoAttr K cs.r "reach_after"
  c1 : NoAttr K cs.c "rows"
  c2 : NoAttr K cs.c "reach"
  p1 : NoAttr K cs.p "body"
  p2 : NoAttr K cs.p "least"
  p3 : NoAttr K cs.p "most"
  p4 : NoAttr K cs.p "reach"
  p5 : NoAttr K cs.p "reach_after"
  k1 : NoAttr K cs.k "number"
  k2 : NoAttr K cs.k "body"
  k3 : NoAttr K cs.k "reach"
theorem put_new {f : Str} {v : V} {fs : List (Str × V)} (h : ∀ x ∈ fs, ¬ x.1 = f) : putF f v fs = fs ++ [(f, v)] := by
  induction fs with
  | nil => rfl
  | cons x fs ih =>
    obtain ⟨g, y⟩ := x
    rw [put_past (h (g, y) (List.mem_cons_self ..)), ih fun z m => h z (List.mem_cons_of_mem _ m)]
    rfl
theorem nf1 {f1 f2 : Str} {v1 v2 : V} (h : ¬ f1 = f2) : putF f2 v2 (putF f1 v1 []) = [(f1, v1), (f2, v2)] := put_past h
theorem nf2 {f1 f2 f3 : Str} {v1 v2 v3 : V} (h1 : ¬ f1 = f2) (h2 : ¬ f1 = f3) (h3 : ¬ f2 = f3) : putF f3 v3 (putF f2 v2 (putF f1 v1 [])) = [(f1, v1), (f2, v2), (f3, v3)] := by
  rw [nf1 h1]
  exact (put_past h2).trans (congrArg _ (put_past h3))
/-- the promise of an __init__ that lays fields; rg, ra: new lists -/
def MadeAt (C : Addr) (H : Hp) (b dx : Addr) (fs : Addr → Addr → List (Str × V)) (Q : VK) : Prop :=
  H b = some (.ins C dx []) ∧ ∀ H' rg ra, H' b = some (.ins C dx (fs rg ra)) → Kept H H' b → Q .non H'
section
variable {P : Program} {w : World} {K : PySem.W.Frag} {mg : Str → Option Value} {base : Heap} {cs : Cs} {H : Hp} {Q : VK} {E : XK}
abbrev sON (j : Nat) : Stmt := inClass (top i_OneValue) j
abbrev sSN (j : Nat) : Stmt := inClass (top i_Standpoint) j
abbrev sRN (j : Nat) : Stmt := inClass (top i_Row) j
abbrev sCN (j : Nat) : Stmt := inClass (top i_Choice) j
abbrev sPN (j : Nat) : Stmt := inClass (top i_Repetition) j
abbrev sKN (j : Nat) : Stmt := inClass (top i_Capture) j
@[irreducible] def spOI (cs : Cs) : Sp := fun vs H Q _ => ∃ (b dx ar : Addr) (neg : Bool), vs = [.ref b, .ref ar, .bl neg] ∧ MadeAt cs.o H b dx (fun rg ra => nF rg ra (.one ar [] neg)) Q
@[irreducible] def spSI (cs : Cs) : Sp := fun vs H Q _ => ∃ (b dx : Addr) (z : Str), vs = [.ref b, .str z] ∧ MadeAt cs.s H b dx (fun rg ra => nF rg ra (.stand z)) Q
@[irreducible] def spRI (cs : Cs) : Sp := fun vs H Q _ => ∃ (b dx al : Addr), vs = [.ref b, .ref al] ∧ MadeAt cs.r H b dx (fun rg ra => nF rg ra (.row al [])) Q
@[irreducible] def spCI (cs : Cs) : Sp := fun vs H Q _ => ∃ (b dx al : Addr), vs = [.ref b, .ref al] ∧ MadeAt cs.c H b dx (fun rg ra => nF rg ra (.choice al [])) Q
@[irreducible] def spPI (cs : Cs) : Sp := fun vs H Q _ => ∃ (b dx c : Addr) (m : Nat) (n : Option Nat), vs = [.ref b, .ref c, .int (m : Nat), optN n] ∧ MadeAt cs.p H b dx (fun rg ra => nF rg ra (.rep c m n)) Q
@[irreducible] def spKI (cs : Cs) : Sp := fun vs H Q _ => ∃ (b dx c : Addr) (k : Nat), vs = [.ref b, .int (k : Nat), .ref c] ∧ MadeAt cs.k H b dx (fun rg ra => nF rg ra (.cap k c)) Q
theorem oi_use {b dx ar : Addr} {neg : Bool} (h : MadeAt cs.o H b dx (fun rg ra => nF rg ra (.one ar [] neg)) Q) : spOI cs [.ref b, .ref ar, .bl neg] H Q E := by
  unfold spOI
  exact ⟨b, dx, ar, neg, rfl, h⟩
theorem si_use {b dx : Addr} {z : Str} (h : MadeAt cs.s H b dx (fun rg ra => nF rg ra (.stand z)) Q) : spSI cs [.ref b, .str z] H Q E := by
  unfold spSI
  exact ⟨b, dx, z, rfl, h⟩
theorem ri_use {b dx al : Addr} (h : MadeAt cs.r H b dx (fun rg ra => nF rg ra (.row al [])) Q) : spRI cs [.ref b, .ref al] H Q E := by
  unfold spRI
  exact ⟨b, dx, al, rfl, h⟩
theorem ci_use {b dx al : Addr} (h : MadeAt cs.c H b dx (fun rg ra => nF rg ra (.choice al [])) Q) : spCI cs [.ref b, .ref al] H Q E := by
  unfold spCI
  exact ⟨b, dx, al, rfl, h⟩
theorem pi_use {b dx c : Addr} {m : Nat} {n : Option Nat} (h : MadeAt cs.p H b dx (fun rg ra => nF rg ra (.rep c m n)) Q) : spPI cs [.ref b, .ref c, .int (m : Nat), optN n] H Q E := by
  unfold spPI
  exact ⟨b, dx, c, m, n, rfl, h⟩
theorem ki_use {b dx c : Addr} {k : Nat} (h : MadeAt cs.k H b dx (fun rg ra => nF rg ra (.cap k c)) Q) : spKI cs [.ref b, .int (k : Nat), .ref c] H Q E := by
  unfold spKI
  exact ⟨b, dx, c, k, rfl, h⟩
theorem scOI : FnScope ["self", "ranges", "inverted"] ["self", "ranges", "inverted"] (defScope (sON 0)) := ⟨rfl, rfl, rfl, by decide +kernel, rfl, by decide +kernel, by decide +kernel⟩
theorem scSI : FnScope ["self", "sign"] ["self", "sign"] (defScope (sSN 0)) := ⟨rfl, rfl, rfl, by decide +kernel, rfl, by decide +kernel, by decide +kernel⟩
theorem scRI : FnScope ["self", "steps"] ["self", "steps"] (defScope (sRN 0)) := ⟨rfl, rfl, rfl, by decide +kernel, rfl, by decide +kernel, by decide +kernel⟩
theorem scCI : FnScope ["self", "rows"] ["self", "rows"] (defScope (sCN 0)) := ⟨rfl, rfl, rfl, by decide +kernel, rfl, by decide +kernel, by decide +kernel⟩
theorem scPI : FnScope ["self", "body", "least", "most"] ["self", "body", "least", "most"] (defScope (sPN 0)) := ⟨rfl, rfl, rfl, by decide +kernel, rfl, by decide +kernel, by decide +kernel⟩
theorem scKI : FnScope ["self", "number", "body"] ["self", "number", "body"] (defScope (sKN 0)) := ⟨rfl, rfl, rfl, by decide +kernel, rfl, by decide +kernel, by decide +kernel⟩
theorem kept_new {H0 H1 : Hp} {b x : Addr} {o o2 u : HO} (k : Kept H0 H1 b) (hb : H1 b = some u) (h : H1 x = none) : Kept H0 (upd (upd H1 x o) b o2) b := (k.trans (Kept.of_same (Same.upd h))).trans Kept.upd
theorem ok_oi {f : Addr} {fd : FuncData} (F : Fun K "__init__" "OneValue.__init__" (sON 0) f fd) (T : TxN K cs) : FnOk P w K mg base CX0 1 f fd ["self", "ranges", "inverted"] (spOI cs) := by
  refine F.ok scOI (fun vs H Q E h => ?_) (fun cdv A outer s H vs Q E hr h => ⟨_, pss_cons (ps_fld (pv 0) (pv 1) rfl) (pss_cons (ps_fld (pv 0) (pv 2) rfl) (pss_one (ps_fld (pv 0) (pe_lst pa_nil) rfl))), ?_⟩)
  · unfold spOI at h
    obtain ⟨_, _, _, _, rfl, _⟩ := h
    rfl
  unfold spOI at h
  obtain ⟨b, dx, ar, neg, rfl, hb, hQ⟩ := h
  refine ⟨_, rfl, _, rfl, b, cs.o, dx, _, rfl, hb, T.clo, T.o1, by show 0 < 1000; decide, ?_⟩
  refine ⟨_, rfl, _, rfl, b, cs.o, dx, _, rfl, upd_same, T.clo, T.o2, by show 1 < 1000; decide, ?_⟩
  refine ⟨by show 0 ≤ sizeLine; decide, fun rg hrg => ⟨_, rfl, b, cs.o, dx, _, rfl, (upd_ne (ne_of_none upd_same hrg)).trans upd_same, T.clo, T.o3, by show 2 < 1000; decide, ?_⟩⟩
  refine hQ _ rg rg (upd_same.trans ?_) (kept_new (Kept.upd.trans Kept.upd) upd_same hrg)
  rw [nf2 (by decide +kernel) (by decide +kernel) (by decide +kernel)]
  rfl
theorem ok_si {f : Addr} {fd : FuncData} (F : Fun K "__init__" "Standpoint.__init__" (sSN 0) f fd) (T : TxN K cs) : FnOk P w K mg base CX0 1 f fd ["self", "sign"] (spSI cs) := by
  refine F.ok scSI (fun vs H Q E h => ?_) (fun cdv A outer s H vs Q E hr h => ⟨_, pss_cons (ps_fld (pv 0) (pv 1) rfl) (pss_one (ps_fld (pv 0) (pe_lst pa_nil) rfl)), ?_⟩)
  · unfold spSI at h
    obtain ⟨_, _, _, rfl, _⟩ := h
    rfl
  unfold spSI at h
  obtain ⟨b, dx, z, rfl, hb, hQ⟩ := h
  refine ⟨_, rfl, _, rfl, b, cs.s, dx, _, rfl, hb, T.cls, T.s1, by show 0 < 1000; decide, ?_⟩
  refine ⟨by show 0 ≤ sizeLine; decide, fun rg hrg => ⟨_, rfl, b, cs.s, dx, _, rfl, (upd_ne (ne_of_none upd_same hrg)).trans upd_same, T.cls, T.s2, by show 1 < 1000; decide, ?_⟩⟩
  refine hQ _ rg rg (upd_same.trans ?_) (kept_new Kept.upd upd_same hrg)
  rw [nf1 (by decide +kernel)]
  rfl
theorem ok_ri {f : Addr} {fd : FuncData} (F : Fun K "__init__" "Row.__init__" (sRN 0) f fd) (T : TxN K cs) : FnOk P w K mg base CX0 1 f fd ["self", "steps"] (spRI cs) := by
  refine F.ok scRI (fun vs H Q E h => ?_) (fun cdv A outer s H vs Q E hr h => ⟨_, pss_cons (ps_fld (pv 0) (pv 1) rfl) (pss_cons (ps_fld (pv 0) (pe_lst pa_nil) rfl) (pss_one (ps_fld (pv 0) (pe_lst pa_nil) rfl))), ?_⟩)
  · unfold spRI at h
    obtain ⟨_, _, _, rfl, _⟩ := h
    rfl
  unfold spRI at h
  obtain ⟨b, dx, al, rfl, hb, hQ⟩ := h
  refine ⟨_, rfl, _, rfl, b, cs.r, dx, _, rfl, hb, T.clr, T.r1, by show 0 < 1000; decide, ?_⟩
  refine ⟨by show 0 ≤ sizeLine; decide, fun rg hrg => ⟨_, rfl, b, cs.r, dx, _, rfl, (upd_ne (ne_of_none upd_same hrg)).trans upd_same, T.clr, T.r2, by show 1 < 1000; decide, ?_⟩⟩
  have e2 : putF "reach" (.ref rg) (putF "steps" (.ref al) []) = [(("steps" : Str), V.ref al), (("reach" : Str), V.ref rg)] := nf1 (by decide +kernel)
  rw [e2]
  refine ⟨by show 0 ≤ sizeLine; decide, fun ra hra => ⟨_, rfl, b, cs.r, dx, _, rfl, (upd_ne (ne_of_none upd_same hra)).trans upd_same, T.clr, T.r3, by show 2 < 1000; decide, ?_⟩⟩
  have e3 : putF "reach_after" (.ref ra) [(("steps" : Str), V.ref al), (("reach" : Str), V.ref rg)] = nF rg ra (.row al []) :=
    (put_past (by decide +kernel)).trans (congrArg _ (put_past (by decide +kernel)))
  rw [e3]
  exact hQ _ rg ra upd_same (kept_new (kept_new Kept.upd upd_same hrg) upd_same hra)
theorem ok_ci {f : Addr} {fd : FuncData} (F : Fun K "__init__" "Choice.__init__" (sCN 0) f fd) (T : TxN K cs) : FnOk P w K mg base CX0 1 f fd ["self", "rows"] (spCI cs) := by
  refine F.ok scCI (fun vs H Q E h => ?_) (fun cdv A outer s H vs Q E hr h => ⟨_, pss_cons (ps_fld (pv 0) (pv 1) rfl) (pss_one (ps_fld (pv 0) (pe_lst pa_nil) rfl)), ?_⟩)
  · unfold spCI at h
    obtain ⟨_, _, _, rfl, _⟩ := h
    rfl
  unfold spCI at h
  obtain ⟨b, dx, al, rfl, hb, hQ⟩ := h
  refine ⟨_, rfl, _, rfl, b, cs.c, dx, _, rfl, hb, T.clc, T.c1, by show 0 < 1000; decide, ?_⟩
  refine ⟨by show 0 ≤ sizeLine; decide, fun rg hrg => ⟨_, rfl, b, cs.c, dx, _, rfl, (upd_ne (ne_of_none upd_same hrg)).trans upd_same, T.clc, T.c2, by show 1 < 1000; decide, ?_⟩⟩
  refine hQ _ rg rg (upd_same.trans ?_) (kept_new Kept.upd upd_same hrg)
  rw [nf1 (by decide +kernel)]
  rfl
theorem ok_pi {f : Addr} {fd : FuncData} (F : Fun K "__init__" "Repetition.__init__" (sPN 0) f fd) (T : TxN K cs) : FnOk P w K mg base CX0 1 f fd ["self", "body", "least", "most"] (spPI cs) := by
  refine F.ok scPI (fun vs H Q E h => ?_) (fun cdv A outer s H vs Q E hr h => ⟨_, pss_cons (ps_fld (pv 0) (pv 1) rfl) (pss_cons (ps_fld (pv 0) (pv 2) rfl) (pss_cons (ps_fld (pv 0) (pv 3) rfl) (pss_cons (ps_fld (pv 0) (pe_lst pa_nil) rfl) (pss_one (ps_fld (pv 0) (pe_lst pa_nil) rfl))))), ?_⟩)
  · unfold spPI at h
    obtain ⟨_, _, _, _, _, rfl, _⟩ := h
    rfl
  unfold spPI at h
  obtain ⟨b, dx, c, m, n, rfl, hb, hQ⟩ := h
  refine ⟨_, rfl, _, rfl, b, cs.p, dx, _, rfl, hb, T.clp, T.p1, by show 0 < 1000; decide, ?_⟩
  refine ⟨_, rfl, _, rfl, b, cs.p, dx, _, rfl, upd_same, T.clp, T.p2, by show 1 < 1000; decide, ?_⟩
  refine ⟨_, rfl, _, rfl, b, cs.p, dx, _, rfl, upd_same, T.clp, T.p3, by show 2 < 1000; decide, ?_⟩
  rw [nf2 (by decide +kernel) (by decide +kernel) (by decide +kernel)]
  refine ⟨by show 0 ≤ sizeLine; decide, fun rg hrg => ⟨_, rfl, b, cs.p, dx, _, rfl, (upd_ne (ne_of_none upd_same hrg)).trans upd_same, T.clp, T.p4, by show 3 < 1000; decide, ?_⟩⟩
  have e4 : putF "reach" (.ref rg) [(("body" : Str), V.ref c), (("least" : Str), V.int (m : Nat)), (("most" : Str), optN n)] = [(("body" : Str), V.ref c), (("least" : Str), V.int (m : Nat)), (("most" : Str), optN n), (("reach" : Str), V.ref rg)] :=
    (put_past (by decide +kernel)).trans (congrArg _ ((put_past (by decide +kernel)).trans (congrArg _ (put_past (by decide +kernel)))))
  rw [e4]
  refine ⟨by show 0 ≤ sizeLine; decide, fun ra hra => ⟨_, rfl, b, cs.p, dx, _, rfl, (upd_ne (ne_of_none upd_same hra)).trans upd_same, T.clp, T.p5, by show 4 < 1000; decide, ?_⟩⟩
  have e5 : putF "reach_after" (.ref ra) [(("body" : Str), V.ref c), (("least" : Str), V.int (m : Nat)), (("most" : Str), optN n), (("reach" : Str), V.ref rg)] = nF rg ra (.rep c m n) :=
    (put_past (by decide +kernel)).trans (congrArg _ ((put_past (by decide +kernel)).trans (congrArg _ ((put_past (by decide +kernel)).trans (congrArg _ (put_past (by decide +kernel)))))))
  rw [e5]
  exact hQ _ rg ra upd_same (kept_new (kept_new ((Kept.upd.trans Kept.upd).trans Kept.upd) upd_same hrg) upd_same hra)
theorem ok_ki {f : Addr} {fd : FuncData} (F : Fun K "__init__" "Capture.__init__" (sKN 0) f fd) (T : TxN K cs) : FnOk P w K mg base CX0 1 f fd ["self", "number", "body"] (spKI cs) := by
  refine F.ok scKI (fun vs H Q E h => ?_) (fun cdv A outer s H vs Q E hr h => ⟨_, pss_cons (ps_fld (pv 0) (pv 1) rfl) (pss_cons (ps_fld (pv 0) (pv 2) rfl) (pss_one (ps_fld (pv 0) (pe_lst pa_nil) rfl))), ?_⟩)
  · unfold spKI at h
    obtain ⟨_, _, _, _, rfl, _⟩ := h
    rfl
  unfold spKI at h
  obtain ⟨b, dx, c, k, rfl, hb, hQ⟩ := h
  refine ⟨_, rfl, _, rfl, b, cs.k, dx, _, rfl, hb, T.clk, T.k1, by show 0 < 1000; decide, ?_⟩
  refine ⟨_, rfl, _, rfl, b, cs.k, dx, _, rfl, upd_same, T.clk, T.k2, by show 1 < 1000; decide, ?_⟩
  refine ⟨by show 0 ≤ sizeLine; decide, fun rg hrg => ⟨_, rfl, b, cs.k, dx, _, rfl, (upd_ne (ne_of_none upd_same hrg)).trans upd_same, T.clk, T.k3, by show 2 < 1000; decide, ?_⟩⟩
  refine hQ _ rg rg (upd_same.trans ?_) (kept_new (Kept.upd.trans Kept.upd) upd_same hrg)
  rw [nf2 (by decide +kernel) (by decide +kernel) (by decide +kernel)]
  rfl
end
end Pat
end

section
namespace Pat
open PySem PySem.Spec PyProof.Rows L2
open PySem.FaultX (FaultTxt)
open PatUtf (Fault)
open PatWords (valueP oneP partsP atomP Pat)
open Ways (WF FwdW FitsW FitAll oneWF seqsWF altsWF repWF capWF)
def setW (g : List UInt8) (p : Nat) : Except Fault (Pat × Nat) := match partsP ((g.drop p).length + 1) false [] (if g[p + 1]? = some 94 then p + 2 else p + 1) (g.drop (if g[p + 1]? = some 94 then p + 2 else p + 1)) with
  | .error e => .error e
  | .ok (l, _, q) => .ok (.cls (decide (g[p + 1]? = some 94)) l, q)
def singW (g : List UInt8) (p : Nat) : Except Fault (Pat × Nat) := match atomP 1 0 [] p (g.drop p) with
  | .error e => .error e
  | .ok (x, _, _, q) => .ok (x, q)
theorem parts_close {f : Nat} {acc : List (Nat × Nat)} {g : List UInt8} {p : Nat} (h : g[p]? = some 93) : partsP (f + 1) true acc p (g.drop p) = .ok (acc, g.drop (p + 1), p + 1) := by
  rw [drop_cons h, partsP]
  rfl
theorem parts_first {f : Nat} {g : List UInt8} {p : Nat} (h : g[p]? = some 93) : partsP (f + 1) false [] p (g.drop p) = .error ⟨2, p⟩ ∧ partE g p = .error ⟨2, p⟩ := by
  constructor
  · rw [drop_cons h, partsP]
    rfl
  · have e : oneE zPart g p = .error ⟨2, p⟩ := by
      unfold oneE
      rw [h]
      dsimp only
      rw [if_neg (by decide), if_pos (by decide +kernel)]
    unfold partE
    rw [e]
/-- at most so many ranges -/
theorem escL_len (d : UInt8) : (escL d.toNat).length ≤ 5 := by
  have := u8_all (p := fun c => decide ((escL c.toNat).length ≤ 5)) (by decide +kernel) d
  exact of_decide_eq_true this
theorem oneE_len {z : Str} {g : List UInt8} {p q : Nat} {l : List (Nat × Nat)} (h : oneE z g p = .ok (l, q)) : l.length ≤ 5 := by
  unfold oneE at h
  cases hc : g[p]? with
  | none => rw [hc] at h; cases h
  | some c =>
    rw [hc] at h
    dsimp only at h
    split at h
    · cases hd : g[p + 1]? with
      | none => rw [hd] at h; cases h
      | some d =>
        rw [hd] at h
        dsimp only at h
        split at h
        · cases h
          exact escL_len d
        · cases h
    · split at h
      · cases h
      · cases e : valueP p (g.drop p) with
        | error x => rw [e] at h; cases h
        | ok y =>
          obtain ⟨v, r, q'⟩ := y
          rw [e] at h
          cases h
          exact Nat.le_of_ble_eq_true rfl
theorem partE_len {g : List UInt8} {p q : Nat} {l : List (Nat × Nat)} (h : partE g p = .ok (l, q)) : l.length ≤ 5 := by
  unfold partE at h
  cases e : oneE zPart g p with
  | error x => rw [e] at h; cases h
  | ok y =>
    obtain ⟨x, q'⟩ := y
    have h1 := oneE_len e
    rw [e] at h
    dsimp only at h
    split at h
    · cases e2 : oneE zEnd g (q' + 1) with
      | error x => rw [e2] at h; cases h
      | ok y2 =>
        obtain ⟨x2, k⟩ := y2
        rw [e2] at h
        dsimp only at h
        split at h
        · cases h
        · cases h; exact Nat.le_of_ble_eq_true rfl
    · cases h; exact h1
/-! ### atoms that are made -/
inductive Atm where
  | one (l : List (Nat × Nat)) (neg : Bool)
  | stand (z : Str)
def AtmFits : Atm → Pat → Prop
  | .one l neg, x => FitsW (oneWF l neg) x
  | .stand z, x => (z = "^" ∨ z = "$" ∨ z = "b") ∧ FitsW (standW z) x
/-- a new part that is an atom; its ranges are new, too -/
def AtmNew (K : PySem.W.Frag) (cs : Cs) (H H' : Hp) (v : V) : Atm → Prop
  | .one l neg => ∃ b dx ar rg ra, v = .ref b ∧ H b = none ∧ H ar = none ∧ H' b = some (.ins cs.o dx (nF rg ra (.one ar l neg))) ∧ RgAt K H' ar l
  | .stand z => ∃ b dx rg ra, v = .ref b ∧ H b = none ∧ H' b = some (.ins cs.s dx (nF rg ra (.stand z)))
/-- a class whose objects are made by a call -/
def NOk (P : Program) (w : World) (K : PySem.W.Frag) (mg : Str → Option Value) (base : Heap) (C : Addr) (k : Nat) (x : Str) (ps : List Str) (sp : Sp) : Prop :=
  ∃ f fd, Mk K C f ∧ mg x = some (.ref C) ∧ Binds K fd ps [] ∧ FnOk P w K mg base CX0 k f fd ps sp
/-- a way out with a new atom -/
def RetA (K : PySem.W.Frag) (C CF : Addr) (cs : Cs) (a dx ag an ab : Addr) (H : Hp) (Q : VK) (E : XK) (res : Except Fault (Pat × Nat)) : Prop := match res with
  | .error e => Out CF e E
  | .ok (x, q) => ∀ H' v atm, RAt C H' a dx ag q an ab → Kept H H' a → AtmNew K cs H H' v atm → AtmFits atm x → Q v H'
section
variable {P : Program} {w : World} {K : PySem.W.Frag} {mg : Str → Option Value} {base : Heap} {C CF fI : Addr} {H H1 H2 : Hp} {a dx ag an ab : Addr} {p q : Nat} {g : List UInt8} {z : Str} {Q : VK} {E : XK} {cs : Cs}
theorem RetA.mono {res : Except Fault (Pat × Nat)} {H0 : Hp} {p0 : Nat} (r : RetA K C CF cs a dx ag an ab H0 Q E res) (k : Kept H0 H a) (ha : RAt C H a dx ag p0 an ab) : RetA K C CF cs a dx ag an ab H Q E res := by
  unfold RetA at r ⊢
  cases res with
  | error e => exact r
  | ok y =>
    intro H' v atm r' k' h1 h2
    refine r H' v atm r' (k.trans k') ?_ h2
    cases atm with
    | one l neg =>
      obtain ⟨b, dx, ar, rg, ra, e1, e2, e3, e4⟩ := h1
      exact ⟨b, dx, ar, rg, ra, e1, none_kept k ha e2, none_kept k ha e3, e4⟩
    | stand z =>
      obtain ⟨b, dx, rg, ra, e1, e2, e3⟩ := h1
      exact ⟨b, dx, rg, ra, e1, none_kept k ha e2, e3⟩
theorem made_same {H1 H2 : Hp} {x dxx : Addr} {o o2 : HO} (hx : H1 x = none) (hd : H1 dxx = none) (k : Kept (upd (upd H1 dxx o) x o2) H2 x) : Same H1 H2 := fun b u e => by
  refine k b u ?_ (ne_of_none e hx)
  rw [upd_ne (ne_of_none e hx), upd_ne (ne_of_none e hd)]
  exact e
/-! ### take_set -/
@[irreducible] def spSet (K : PySem.W.Frag) (C CF : Addr) (cs : Cs) : Sp := fun vs H Q E => ∃ (a dx ag : Addr) (p : Nat) (an ab : Addr) (g : List UInt8), vs = [.ref a] ∧ At K C H a dx ag p an ab g ∧ g[p]? = some 91 ∧ RetA K C CF cs a dx ag an ab H Q E (setW g p)
theorem set_use (h : At K C H a dx ag p an ab g) (h91 : g[p]? = some 91) (r : RetA K C CF cs a dx ag an ab H Q E (setW g p)) : spSet K C CF cs [.ref a] H Q E := by
  unfold spSet
  exact ⟨a, dx, ag, p, an, ab, g, rfl, h, h91, r⟩
theorem scSet : FnScope ["self", "inverted", "ranges"] ["self"] (defScope (sR 8)) := ⟨rfl, rfl, rfl, by decide +kernel, rfl, by decide +kernel, by decide +kernel⟩
theorem sameR_app {l l' m m' : List (Nat × Nat)} (h : SameR l l') (k : SameR m m') : SameR (l ++ m) (l' ++ m') := fun x => by
  have h := h x
  have k := k x
  unfold PatWords.inSet at h k ⊢
  rw [List.any_append, List.any_append, h, k]
theorem ok_set {f : Addr} {fd : FuncData} (F : Fun K "take_set" "Reader.take_set" (sR 8) f fd) (T : Txt K mg C CF fI) (M1 : MOk P w K mg base CX0 C 2 "at" ["self", "signs"] (spAt K C))
    (M2 : MOk P w K mg base (L2N.CX P w) C 6 "take_part" ["self"] (spGoR K C CF partE)) (M3 : MOk P w K mg base (L2N.CX P w) C 3 "take" ["self", "signs"] (spTake K C CF))
    (N4 : NOk P w K mg base cs.o 1 "OneValue" ["self", "ranges", "inverted"] (spOI cs)) :
    FnOk P w K mg base (L2N.CX P w) 7 f fd ["self"] (spSet K C CF cs) := by
  obtain ⟨f1, fd1, m1, b1, G1⟩ := M1
  obtain ⟨f2, fd2, m2, b2, G2⟩ := M2
  obtain ⟨f3, fd3, m3, b3, G3⟩ := M3
  obtain ⟨f4, fd4, mk4, gg4, b4, G4⟩ := N4
  refine F.okN scSet (fun vs H Q E h => ?_) (fun cdv A outer s H vs Q E hr h => ⟨_, pss_cons (ps_expr (pe_meth (pv 0) T.cl m3 G3 (hr.mono (by decide)) b3 .nil (L2N.passes_call (L2N.takes_of rfl rfl rfl rfl) (fun _ _ _ _ h => h)) (by exact (pa_cons pe_str pa_nil))))
      (pss_cons (ps_set (i := 1) scSet.nd rfl (Or.inl rfl) (pe_meth (pv 0) T.cl m1 G1 (hr.mono (by decide)) b1 .nil pass0 (by exact (pa_cons pe_str pa_nil))))
      (pss_cons (ps_if (pt_val (pv 1))
        (pss_one (ps_expr (pe_meth (pv 0) T.cl m3 G3 (hr.mono (by decide)) b3 .nil (L2N.passes_call (L2N.takes_of rfl rfl rfl rfl) (fun _ _ _ _ h => h)) (by exact (pa_cons pe_str pa_nil))))) pss_nil)
      (pss_cons (ps_set (i := 2) scSet.nd rfl (Or.inl rfl) (pe_meth0 (pv 0) T.cl m2 G2 hr b2 .nil (L2N.passes_call (L2N.takes_of rfl rfl rfl rfl) (fun _ _ _ _ h => h))))
      (pss_cons (ps_while (passes_of rfl) (pt_not (pt_val (pe_meth (pv 0) T.cl m1 G1 (hr.mono (by decide)) b1 .nil pass0 (pa_cons pe_str pa_nil)))) (pss_one (ps_set (i := 2) scSet.nd rfl (Or.inl rfl) (pe_op op_cat (pv 2) (pe_meth0 (pv 0) T.cl m2 G2 hr b2 .nil (L2N.passes_call (L2N.takes_of rfl rfl rfl rfl) (fun _ _ _ _ h => h)))))))
      (pss_cons (ps_expr (pe_meth (pv 0) T.cl m3 G3 (hr.mono (by decide)) b3 .nil (L2N.passes_call (L2N.takes_of rfl rfl rfl rfl) (fun _ _ _ _ h => h)) (by exact (pa_cons pe_str pa_nil))))
      (pss_one (ps_ret (pe_make mk4 G4 (hr.mono (by decide)) rfl gg4 b4 .nil pass0 (by exact (pa_cons (pv 2) (pa_cons (pv 1) pa_nil))))))))))), ?_⟩)
  · unfold spSet at h
    obtain ⟨_, _, _, _, _, _, _, rfl, _⟩ := h
    rfl
  unfold spSet at h
  obtain ⟨a, dx, ag, p, an, ab, g, rfl, h, h91, hQ⟩ := h
  have hlt := lt_of_some h91
  refine ⟨_, rfl, a, dx, _, rfl, h.1, rF_no (by decide +kernel), ?_⟩
  refine take_use h ?_
  rw [takeE_yes h91 (by decide +kernel)]
  intro H1 r1 k1
  have h1 := h.next r1 k1 (by omega)
  -- the rest from the first part on
  have rest : ∀ (neg : Bool) (p0 : Nat) (H0 : Hp) (v2 : Option V), At K C H0 a dx ag p0 an ab g → Kept H H0 a → p < p0 → RetA K C CF cs a dx ag an ab H Q E (match partsP ((g.drop p).length + 1) false [] p0 (g.drop p0) with
      | .error e => .error e
      | .ok (l, _, q) => .ok (.cls neg l, q)) →
      (tSeq (tAsg (tMeth C "take_part" (spGoR K C CF partE) [] E (tVar 0) tNil) (gName 2)) (tSeq (tWhile (tNot (tB (tMeth C "at" (spAt K C) [] E0 (tVar 0) (tCons (tC (.str "]")) tNil)))) (tAsg (tOp rCat (tVar 2) (tMeth C "take_part" (spGoR K C CF partE) [] E (tVar 0) tNil)) (gName 2)))
        (tSeq (tDrop (tMeth C "take" (spTake K C CF) [] E (tVar 0) (tCons (tC (.str "]")) tNil))) (tRet (tMake cs.o (spOI cs) [] E0 (tCons (tVar 2) (tCons (tVar 1) tNil))))))) { nx := fun _ H' => Q .non H', rt := Q } [some (.ref a), some (.bl neg), v2] H0 := by
    intro neg p0 H0 v2 h0 k0 hp0 hR
    obtain ⟨F0, hF0⟩ : ∃ F0, (g.drop p).length = F0 := ⟨_, rfl⟩
    rw [hF0] at hR
    have hF1 : F0 = g.length - p := by rw [← hF0, List.length_drop]
    refine ⟨_, rfl, a, dx, _, rfl, h0.1, rF_no (by decide +kernel), ?_⟩
    refine goR_use h0 ?_
    -- what one part says of the parts to come
    have part1 : ∀ {s : Bool} {acc : List (Nat × Nat)} {f' q0 : Nat} {H3 : Hp} {N : VK}, (s = true → g[q0]? ≠ some 93) → Kept H H3 a → (g.drop q0).length < f' + 1 →
        RetA K C CF cs a dx ag an ab H Q E (match partsP (f' + 1) s acc q0 (g.drop q0) with
          | .error e => .error e
          | .ok (l, _, q) => .ok (.cls neg l, q)) → (s = false → acc = []) →
        (∀ q1 l l' H4 v, q0 < q1 → q1 ≤ g.length → RAt C H4 a dx ag q1 an ab → Kept H3 H4 a → (g.drop q1).length < f' → RgNew K H3 H4 v l → l.length ≤ 5 → SameR l l' → RetA K C CF cs a dx ag an ab H Q E (match partsP f' true (acc ++ l') q1 (g.drop q1) with
          | .error e => .error e
          | .ok (l, _, q) => .ok (.cls neg l, q)) → N v H4) → RetR K C CF a dx ag an ab H3 N E (partE g q0) := by
      intro s acc f' q0 H3 N hs k3 hf hR3 hs2 hN
      by_cases c93 : g[q0]? = some 93
      · cases s with
        | true => exact absurd c93 (hs rfl)
        | false =>
          obtain ⟨e1, e2⟩ := parts_first (f := f') c93
          rw [hs2 rfl, e1] at hR3
          rw [e2]
          exact hR3
      · have pp := parts_part (f := f') (s := s) (acc := acc) (g := g) (p := q0) (fun c hc e => c93 (by rw [hc, e]))
        cases ep : partE g q0 with
        | error e =>
          rw [ep] at pp
          dsimp only at pp
          rw [pp] at hR3
          exact hR3
        | ok y =>
          obtain ⟨l, q1⟩ := y
          rw [ep] at pp
          obtain ⟨l', sl, pp⟩ := pp
          obtain ⟨l1, l2⟩ := partE_ok ep
          rw [pp] at hR3
          intro H4 v r4 k4 rn
          refine hN q1 l l' H4 v l1 l2 r4 k4 ?_ rn (partE_len ep) sl hR3
          rw [List.length_drop] at hf ⊢
          omega
    refine part1 (f' := F0) (s := false) (acc := []) (fun e => nomatch e) k0 (by rw [List.length_drop]; omega) hR (fun _ => rfl) ?_
    rintro q1 l1 l1' H4 _ l1a l2 r4 k4 hf4 ⟨ar4, rfl, har4, hrg4⟩ hl5 sl1 hR4
    rw [List.nil_append] at hR4
    have h4 := h0.next r4 k4 l2
    refine ⟨fun m σ H' => ∃ (q : Nat) (f' : Nat) (acc l : List (Nat × Nat)) (ar : Addr), m = g.length - q ∧ σ = [some (.ref a), some (.bl neg), some (.ref ar)] ∧ At K C H' a dx ag q an ab g ∧ Kept H H' a ∧ (g.drop q).length < f' ∧ H ar = none ∧ RgAt K H' ar l ∧ SameR l acc ∧ l.length ≤ 5 * q ∧ RetA K C CF cs a dx ag an ab H Q E (match partsP f' true acc q (g.drop q) with
          | .error e => .error e
          | .ok (l, _, q) => .ok (.cls neg l, q)), ⟨_, q1, F0, l1', l1, ar4, rfl, rfl, h4, k0.trans k4, hf4, none_kept k0 h0.1 har4, hrg4, sl1, by omega, hR4⟩, ?_⟩
    rintro m σ H5 ⟨q, f', acc, l, ar, rfl, rfl, h5, k5, hf5, har, hrg, sl, hl, hR5⟩
    obtain ⟨f'', rfl⟩ : ∃ f'', f' = f'' + 1 := ⟨f' - 1, by omega⟩
    refine ⟨_, rfl, a, dx, _, rfl, h5.1, rF_no (by decide +kernel), ?_⟩
    refine at_use h5 (by decide +kernel) fun H6 s6 => ?_
    have h6 := h5.same s6
    have k6 := k5.trans (Kept.of_same s6)
    have hrg6 := hrg.same s6
    refine ⟨_, rfl, ?_⟩
    by_cases c93 : g[q]? = some 93
    · refine if_false_of (by rw [isAt_some c93]; decide +kernel) ?_
      refine ⟨_, rfl, a, dx, _, rfl, h6.1, rF_no (by decide +kernel), ?_⟩
      refine take_use h6 ?_
      rw [takeE_yes c93 (by decide +kernel)]
      rw [parts_close c93] at hR5
      have hR5' : ∀ H' v atm, RAt C H' a dx ag (q + 1) an ab → Kept H H' a → AtmNew K cs H H' v atm → AtmFits atm (.cls neg acc) → Q v H' := hR5
      intro H7 r7 k7
      have k17 := k6.trans k7
      have hrg7 := hrg6.kept h6.1 k7
      refine ⟨_, rfl, _, rfl, fun x dxx hx hdx hne => ?_⟩
      refine oi_use ⟨upd_same, fun H8 rg ra hb8 k8 => ⟨rfl, ?_⟩⟩
      have s8 := made_same hx hdx k8
      exact hR5' H8 (.ref x) (.one l neg) (s8 _ _ r7) (k17.trans (Kept.of_same s8)) ⟨x, dxx, ar, rg, ra, rfl, none_kept k17 r7 hx, har, hb8, hrg7.same s8⟩ (Ways.fits_cls sl)
    · have e93 : isAt g q "]" = false := by
        cases e : g[q]? with
        | none => exact isAt_none e
        | some d =>
          rw [isAt_some e, at_sign (n := 93) (by decide +kernel)]
          exact decide_eq_false fun x => c93 (by rw [e, x])
      rw [e93]
      refine if_true_of rfl ⟨fun σ' H' => ∃ q', q < q' ∧ q' ≤ g.length ∧ ∃ (f' : Nat) (acc l : List (Nat × Nat)) (ar : Addr), σ' = [some (.ref a), some (.bl neg), some (.ref ar)] ∧ At K C H' a dx ag q' an ab g ∧ Kept H H' a ∧ (g.drop q').length < f' ∧ H ar = none ∧ RgAt K H' ar l ∧ SameR l acc ∧ l.length ≤ 5 * q' ∧ RetA K C CF cs a dx ag an ab H Q E (match partsP f' true acc q' (g.drop q') with
          | .error e => .error e
          | .ok (l, _, q) => .ok (.cls neg l, q)), ?_, ?_⟩
      · rintro σ' H' ⟨q', l1, l2, f3, acc3, l3, ar3, rfl, h7, k7, hf7, x1, x2, x3, x4, hR7⟩
        exact ⟨g.length - q', by omega, q', f3, acc3, l3, ar3, rfl, rfl, h7, k7, hf7, x1, x2, x3, x4, hR7⟩
      · refine ⟨_, rfl, _, rfl, a, dx, _, rfl, h6.1, rF_no (by decide +kernel), ?_⟩
        refine goR_use h6 ?_
        refine part1 (f' := f'') (s := true) (acc := acc) (fun _ => c93) k6 hf5 hR5 (fun e => nomatch e) ?_
        rintro q2 l2 l2' H8 _ l3 l4 r8 k8 hf8 ⟨ar8, rfl, har8, ts8, hts8, htu8⟩ hl8 sl8 hR8
        obtain ⟨ts6, hts6, htu6⟩ := hrg6.kept h6.1 k8
        have el6 := htu6.len
        have el8 := htu8.len
        have hg1000 := h6.2.2.2
        refine ⟨ar, ar8, _, _, rfl, rfl, hts6, hts8, ?_, fun z hz => ?_⟩
        · rw [List.length_map, List.length_map]
          exact Nat.le_trans (by omega : ts6.length + ts8.length ≤ 10000) (by decide)
        · have h8 := (h6.next r8 k8 l4).same (Same.upd hz (o := HO.lst (ts6.map V.ref ++ ts8.map V.ref)))
          have k18 := k6.trans k8
          refine ⟨q2, l3, l4, f'', acc ++ l2', l ++ l2, z, rfl, h8, k18.trans (Kept.of_same (Same.upd hz)), hf8, none_kept k18 r8 hz, ⟨ts6 ++ ts8, ?_, ?_⟩, sameR_app sl sl8, ?_, hR8⟩
          · rw [upd_same, List.map_append]
          · exact Tups.map (fun _ _ e => sqt_same' e (Same.upd hz)) (Tups.app htu6 htu8)
          · rw [List.length_append]
            omega
  -- [^ or [
  refine ⟨_, rfl, a, dx, _, rfl, h1.1, rF_no (by decide +kernel), ?_⟩
  refine at_use h1 (by decide +kernel) fun H2 s2 => ?_
  have h2 := h1.same s2
  have k2 := k1.trans (Kept.of_same s2)
  refine ⟨_, rfl, _, rfl, ?_⟩
  unfold setW at hQ
  by_cases c94 : g[p + 1]? = some 94
  · rw [if_pos c94, decide_eq_true c94] at hQ
    have hlt2 := lt_of_some c94
    have e94 : isAt g (p + 1) "^" = true := by rw [isAt_some c94]; decide +kernel
    rw [e94]
    refine if_true_of rfl ?_
    refine ⟨_, rfl, a, dx, _, rfl, h2.1, rF_no (by decide +kernel), ?_⟩
    refine take_use h2 ?_
    rw [takeE_yes c94 (by decide +kernel)]
    intro H3 r3 k3
    exact rest true (p + 2) H3 _ (h2.next r3 k3 (by omega)) (k2.trans k3) (by omega) hQ
  · rw [if_neg c94, decide_eq_false c94] at hQ
    have e94 : isAt g (p + 1) "^" = false := by
      cases e : g[p + 1]? with
      | none => exact isAt_none e
      | some d =>
        rw [isAt_some e, at_sign (n := 94) (by decide +kernel)]
        exact decide_eq_false fun x => c94 (by rw [e, x])
    rw [e94]
    refine if_false_of rfl ?_
    exact rest false (p + 1) H2 _ h2 k2 (by omega) hQ
end
end Pat
end

section
namespace Pat
open PySem PySem.Spec PyProof.Rows L2
open PySem.FaultX (FaultTxt)
open PatUtf (Fault)
open PatWords (valueP oneP partsP atomP timesP repP Pat)
open Ways (WF FwdW FitsW FitAll oneWF seqsWF altsWF repWF capWF)
theorem sing_set {g : List UInt8} {p : Nat} (h : g[p]? = some 91) : singW g p = setW g p := by
  unfold singW setW
  rw [drop_cons h, atomP.eq_def 1]
  cases hd : g[p + 1]? with
  | none =>
    rw [if_neg (fun x => nomatch x), drop_none hd]
    rfl
  | some d =>
    rw [drop_cons hd]
    by_cases c : d = 94
    · subst c
      rw [if_pos rfl]
      simp only [(by decide : ¬ (91 : UInt8) = 46), (by decide : ¬ (91 : UInt8) = 94), (by decide : ¬ (91 : UInt8) = 36), (by decide : ¬ (91 : UInt8) = 92), if_false, if_true]
      cases partsP ((91 :: 94 :: g.drop (p + 1 + 1)).length + 1) false [] (p + 2) (g.drop (p + 1 + 1)) with
      | error e => rfl
      | ok y => rfl
    · rw [if_neg (fun x => c (Option.some.inj x)), decide_eq_false (fun x => c (Option.some.inj x))]
      simp only [(by decide : ¬ (91 : UInt8) = 46), (by decide : ¬ (91 : UInt8) = 94), (by decide : ¬ (91 : UInt8) = 36), (by decide : ¬ (91 : UInt8) = 92), if_false, if_true, c]
      rw [← drop_cons hd]
      cases partsP ((91 :: g.drop (p + 1)).length + 1) false [] (p + 1) (g.drop (p + 1)) with
      | error e => rfl
      | ok y => rfl
/-- what stands for itself or for a set behind a backslash -/
def escAtm (d : Nat) : Atm := if d = 98 then .stand "b" else .one (escL d) false
theorem stand_b : FitsW (standW "b") .edge := fun t _ i _ => by
  refine Ways.Eqv.of_eq ?_
  unfold standW
  rw [if_neg (by decide +kernel), if_neg (by decide +kernel), Ways.allW]
theorem stand_1 : FitsW (standW "^") .first := fun t _ i _ => by
  refine Ways.Eqv.of_eq ?_
  unfold standW
  rw [if_pos rfl, Ways.allW]
theorem stand_2 : FitsW (standW "$") .last := fun t _ i _ => by
  refine Ways.Eqv.of_eq ?_
  unfold standW
  rw [if_neg (by decide +kernel), if_pos rfl, Ways.allW]
theorem sing_esc {g : List UInt8} {p : Nat} (h : g[p]? = some 92) : match escT zAtom g p with
    | .error e => singW g p = .error e
    | .ok (d, q) => ∃ x, singW g p = .ok (x, q) ∧ AtmFits (escAtm d) x := by
  unfold singW escT
  rw [drop_cons h, atomP.eq_def 1]
  simp only [(by decide : ¬ (92 : UInt8) = 46), (by decide : ¬ (92 : UInt8) = 94), (by decide : ¬ (92 : UInt8) = 36), if_false, if_true]
  cases hd : g[p + 1]? with
  | none =>
    rw [drop_none hd]
  | some d =>
    rw [drop_cons hd]
    dsimp only
    have hb := escB_all d
    unfold escB at hb
    rw [← classOf_is] at hb
    have h98 : d.toNat = 98 ↔ d = 98 := u8_eq (by decide)
    cases e1 : PatWords.classOf d with
    | some l =>
      rw [e1] at hb
      simp only [Bool.and_eq_true, Bool.not_eq_true', beq_iff_eq, bne_iff_ne] at hb
      have n98 : ¬ d = 98 := hb.2.2.2.2.1
      rw [if_pos hb.2.2.1]
      rw [if_neg n98]
      refine ⟨_, rfl, ?_⟩
      unfold escAtm
      rw [if_neg (fun x => n98 (h98.mp x))]
      exact Ways.fits_cls (cls_same e1)
    | none =>
      rw [e1] at hb
      cases e2 : PatWords.escapedOf d with
      | some x =>
        rw [e2] at hb
        simp only [Bool.and_eq_true, Bool.not_eq_true', beq_iff_eq, bne_iff_ne] at hb
        have n98 : ¬ d = 98 := hb.2.2.2.2.2
        rw [if_pos hb.2.2.1]
        rw [if_neg n98]
        refine ⟨_, rfl, ?_⟩
        unfold escAtm escL
        rw [if_neg (fun x => n98 (h98.mp x)), if_neg (by rw [hb.2.2.2.1]; exact Bool.false_ne_true), hb.2.2.2.2.1]
        exact Ways.fits_cls fun _ => rfl
      | none =>
        rw [e2] at hb
        simp only [Bool.and_eq_true, Bool.not_eq_true', beq_iff_eq] at hb
        rw [hb.2.2]
        by_cases c : d = 98
        · rw [if_pos (beq_iff_eq.mpr c)]
          rw [if_pos c]
          refine ⟨_, rfl, ?_⟩
          unfold escAtm
          rw [if_pos (h98.mpr c)]
          exact ⟨.inr (.inr rfl), stand_b⟩
        · rw [if_neg (by simpa using c)]
          rw [if_neg c]
theorem sing_dot {g : List UInt8} {p : Nat} (h : g[p]? = some 46) : singW g p = .ok (.any, p + 1) := by
  unfold singW
  rw [drop_cons h, atomP.eq_def 1]
  rfl
theorem sing_1 {g : List UInt8} {p : Nat} (h : g[p]? = some 94) : singW g p = .ok (.first, p + 1) := by
  unfold singW
  rw [drop_cons h, atomP.eq_def 1]
  rfl
theorem sing_2 {g : List UInt8} {p : Nat} (h : g[p]? = some 36) : singW g p = .ok (.last, p + 1) := by
  unfold singW
  rw [drop_cons h, atomP.eq_def 1]
  rfl
theorem sing_plain {g : List UInt8} {p : Nat} {c : UInt8} (h : g[p]? = some c) (h1 : c ≠ 40) (h2 : c ≠ 60) (h3 : c ≠ 91) (h4 : c ≠ 92) (h5 : ¬ (c = 46 ∨ c = 94 ∨ c = 36)) :
    match plainE zSigns g p with
      | .error e => singW g p = .error e
      | .ok (l, q) => ∃ x, singW g p = .ok (x, q) ∧ FitsW (oneWF l false) x := by
  have h6 : c ≠ 46 := fun x => h5 (.inl x)
  have h7 : c ≠ 94 := fun x => h5 (.inr (.inl x))
  have h8 : c ≠ 36 := fun x => h5 (.inr (.inr x))
  unfold singW plainE
  rw [drop_cons h, atomP.eq_def 1, h]
  simp only [h1, h2, h3, h4, h6, h7, h8, if_false]
  rw [out_signs]
  by_cases hs : PatWords.signs.contains c = true
  · rw [if_pos hs]
    rw [if_pos hs]
  · rw [if_neg hs]
    rw [if_neg hs]
    cases valueP p (c :: g.drop (p + 1)) with
    | error e => rfl
    | ok y =>
      obtain ⟨v, r, q⟩ := y
      exact ⟨_, rfl, Ways.fits_cls fun _ => rfl⟩
theorem at_ends (c : UInt8) : (cds "^$").contains c.toNat = (decide (c = 94) || decide (c = 36)) :=
  beq_iff_eq.mp (u8_all (p := fun c => (cds "^$").contains c.toNat == (decide (c = 94) || decide (c = 36))) (by decide +kernel) c)
section
variable {P : Program} {w : World} {K : PySem.W.Frag} {mg : Str → Option Value} {base : Heap} {C CF fI : Addr} {H H1 H2 : Hp} {a dx ag an ab : Addr} {p q : Nat} {g : List UInt8} {z : Str} {Q : VK} {E : XK} {cs : Cs}
/-! ### take_escaped_atom -/
@[irreducible] def spEscA (K : PySem.W.Frag) (C CF : Addr) (cs : Cs) : Sp := fun vs H Q E => ∃ (a dx ag : Addr) (p : Nat) (an ab : Addr) (g : List UInt8), vs = [.ref a] ∧ At K C H a dx ag p an ab g ∧ g[p]? = some 92 ∧ RetA K C CF cs a dx ag an ab H Q E (singW g p)
theorem escA_use (h : At K C H a dx ag p an ab g) (h92 : g[p]? = some 92) (r : RetA K C CF cs a dx ag an ab H Q E (singW g p)) : spEscA K C CF cs [.ref a] H Q E := by
  unfold spEscA
  exact ⟨a, dx, ag, p, an, ab, g, rfl, h, h92, r⟩
theorem scEscA : FnScope ["self", "sign"] ["self"] (defScope (sR 9)) := ⟨rfl, rfl, rfl, by decide +kernel, rfl, by decide +kernel, by decide +kernel⟩
theorem ok_escA {f : Addr} {fd : FuncData} (F : Fun K "take_escaped_atom" "Reader.take_escaped_atom" (sR 9) f fd) (T : Txt K mg C CF fI) (hS1 : ∃ t, mg "ATOM_ESCAPES" = some (.str zAtom t))
    (M1 : MOk P w K mg base (L2N.CX P w) C 4 "take_escape" ["self", "escapes"] (spEscape K C CF)) (G2 : GOk P w K mg base CX0 4 "escape_ranges" ["sign"] (spEsc K))
    (N3 : NOk P w K mg base cs.o 1 "OneValue" ["self", "ranges", "inverted"] (spOI cs)) (N4 : NOk P w K mg base cs.s 1 "Standpoint" ["self", "sign"] (spSI cs)) :
    FnOk P w K mg base (L2N.CX P w) 5 f fd ["self"] (spEscA K C CF cs) := by
  obtain ⟨f1, fd1, m1, b1, G1⟩ := M1
  obtain ⟨f2, fd2, gg2, k2, b2, G2⟩ := G2
  obtain ⟨f3, fd3, mk3, gg3, b3, G3⟩ := N3
  obtain ⟨f4, fd4, mk4, gg4, b4, G4⟩ := N4
  refine F.okN scEscA (fun vs H Q E h => ?_) (fun cdv A outer s H vs Q E hr h => ⟨_, pss_cons (ps_set (i := 1) scEscA.nd rfl (Or.inl rfl) (pe_meth (pv 0) T.cl m1 G1 hr b1 .nil (L2N.passes_call (L2N.takes_of rfl rfl rfl rfl) (fun _ _ _ _ h => h)) (by exact (pa_cons (pe_gs hS1) pa_nil))))
      (pss_cons (ps_if (pt_cmpR op_eq (pv 1) pe_str (nomark _)) (pss_one (ps_ret (pe_make mk4 G4 (hr.mono (by decide)) rfl gg4 b4 .nil pass0 (by exact (pa_cons (pv 1) pa_nil))))) pss_nil)
      (pss_one (ps_ret (pe_make mk3 G3 (hr.mono (by decide)) rfl gg3 b3 .nil pass0 (by exact (pa_cons (pe_call G2 hr rfl gg2 k2 b2 .nil pass0 (by exact (pa_cons (pv 1) pa_nil))) (pa_cons pe_bl pa_nil))))))), ?_⟩)
  · unfold spEscA at h
    obtain ⟨_, _, _, _, _, _, _, rfl, _⟩ := h
    rfl
  unfold spEscA at h
  obtain ⟨a, dx, ag, p, an, ab, g, rfl, h, h92, hQ⟩ := h
  refine ⟨_, rfl, a, dx, _, rfl, h.1, rF_no (by decide +kernel), ?_⟩
  refine escape_use h h92 ?_
  have se := sing_esc h92
  cases e : escT zAtom g p with
  | error x =>
    rw [e] at se
    dsimp only at se
    rw [se] at hQ
    exact hQ
  | ok y =>
    obtain ⟨d, q⟩ := y
    rw [e] at se
    obtain ⟨x, e2, fx⟩ := se
    rw [e2] at hQ
    have hQ' : ∀ H' v atm, RAt C H' a dx ag q an ab → Kept H H' a → AtmNew K cs H H' v atm → AtmFits atm x → Q v H' := hQ
    intro H1 r1 k1
    refine ⟨_, rfl, rfl, _, rfl, ?_⟩
    unfold escAtm at fx
    by_cases c98 : d = 98
    · rw [if_pos c98] at fx
      refine if_true_of (by rw [c98]; decide +kernel) ?_
      refine ⟨_, rfl, fun x dxx hx hdx hne => ?_⟩
      have ez : sg d = "b" := by rw [c98]; decide +kernel
      refine si_use ⟨upd_same, fun H8 rg ra hb8 k8 => ⟨rfl, ?_⟩⟩
      have s8 := made_same hx hdx k8
      rw [ez] at hb8
      exact hQ' H8 _ (.stand "b") (s8 _ _ r1) (k1.trans (Kept.of_same s8)) ⟨x, dxx, rg, ra, rfl, none_kept k1 r1 hx, hb8⟩ fx
    · rw [if_neg c98] at fx
      refine if_false_of (decide_eq_false fun e => c98 ?_) ?_
      · injection e with e
        have e := congrArg Str.cps e
        have e3 : (#[d] : Array Nat) = #[98] := e.trans (by decide +kernel)
        simpa using e3
      refine ⟨_, rfl, ?_⟩
      refine esc_use ?_
      rintro H2 _ s2 ⟨ar, rfl, har, hrg⟩
      intro x dxx hx hdx hne
      refine oi_use ⟨upd_same, fun H8 rg ra hb8 k8 => ⟨rfl, ?_⟩⟩
      have s8 := Same.trans s2 (made_same hx hdx k8)
      exact hQ' H8 _ (.one (escL d) false) (s8 _ _ r1) (k1.trans (Kept.of_same s8)) ⟨x, dxx, ar, rg, ra, rfl, none_kept k1 r1 (none_same s2 hx), none_kept k1 r1 har, hb8, hrg.same (made_same hx hdx k8)⟩ fx
/-! ### take_single_atom -/
@[irreducible] def spSingle (K : PySem.W.Frag) (C CF : Addr) (cs : Cs) : Sp := fun vs H Q E => ∃ (a dx ag : Addr) (p : Nat) (an ab : Addr) (g : List UInt8) (c : UInt8), vs = [.ref a] ∧ At K C H a dx ag p an ab g ∧ g[p]? = some c ∧ c ≠ 40 ∧ c ≠ 60 ∧ RetA K C CF cs a dx ag an ab H Q E (singW g p)
theorem single_use {c : UInt8} (h : At K C H a dx ag p an ab g) (hc : g[p]? = some c) (h1 : c ≠ 40) (h2 : c ≠ 60) (r : RetA K C CF cs a dx ag an ab H Q E (singW g p)) : spSingle K C CF cs [.ref a] H Q E := by
  unfold spSingle
  exact ⟨a, dx, ag, p, an, ab, g, c, rfl, h, hc, h1, h2, r⟩
theorem scSingle : FnScope ["self"] ["self"] (defScope (sR 10)) := ⟨rfl, rfl, rfl, by decide +kernel, rfl, by decide +kernel, by decide +kernel⟩
theorem ok_single {f : Addr} {fd : FuncData} (F : Fun K "take_single_atom" "Reader.take_single_atom" (sR 10) f fd) (T : Txt K mg C CF fI) (hS2 : ∃ t, mg "SIGNS" = some (.str zSigns t))
    (M1 : MOk P w K mg base CX0 C 2 "at" ["self", "signs"] (spAt K C)) (M2 : MOk P w K mg base (L2N.CX P w) C 7 "take_set" ["self"] (spSet K C CF cs))
    (M3 : MOk P w K mg base (L2N.CX P w) C 5 "take_escaped_atom" ["self"] (spEscA K C CF cs)) (M4 : MOk P w K mg base (L2N.CX P w) C 3 "take" ["self", "signs"] (spTake K C CF))
    (M5 : MOk P w K mg base (L2N.CX P w) C 4 "take_plain" ["self", "barred"] (spPlain K C CF)) (G6 : GOk P w K mg base CX0 2 "every_value" [] (spEvery K))
    (N3 : NOk P w K mg base cs.o 1 "OneValue" ["self", "ranges", "inverted"] (spOI cs)) (N4 : NOk P w K mg base cs.s 1 "Standpoint" ["self", "sign"] (spSI cs)) :
    FnOk P w K mg base (L2N.CX P w) 8 f fd ["self"] (spSingle K C CF cs) := by
  obtain ⟨f1, fd1, m1, b1, G1⟩ := M1
  obtain ⟨f2, fd2, m2, b2, G2⟩ := M2
  obtain ⟨f3, fd3, m3, b3, G3⟩ := M3
  obtain ⟨f4, fd4, m4, b4, G4⟩ := M4
  obtain ⟨f5, fd5, m5, b5, G5⟩ := M5
  obtain ⟨f6, fd6, gg6, k6, b6, G6⟩ := G6
  obtain ⟨f7, fd7, mk7, gg7, b7, G7⟩ := N3
  obtain ⟨f8, fd8, mk8, gg8, b8, G8⟩ := N4
  refine F.okN scSingle (fun vs H Q E h => ?_) (fun cdv A outer s H vs Q E hr h => ⟨_, pss_cons (ps_if (pt_val (pe_meth (pv 0) T.cl m1 G1 (hr.mono (by decide)) b1 .nil pass0 (pa_cons pe_str pa_nil)))
        (pss_one (ps_ret (pe_meth0 (pv 0) T.cl m2 G2 hr b2 .nil (L2N.passes_call (L2N.takes_of rfl rfl rfl rfl) (fun _ _ _ _ h => h))))) pss_nil)
      (pss_cons (ps_if (pt_val (pe_meth (pv 0) T.cl m1 G1 (hr.mono (by decide)) b1 .nil pass0 (pa_cons pe_str pa_nil)))
        (pss_one (ps_ret (pe_meth0 (pv 0) T.cl m3 G3 (hr.mono (by decide)) b3 .nil (L2N.passes_call (L2N.takes_of rfl rfl rfl rfl) (fun _ _ _ _ h => h))))) pss_nil)
      (pss_cons (ps_if (pt_val (pe_meth (pv 0) T.cl m1 G1 (hr.mono (by decide)) b1 .nil pass0 (pa_cons pe_str pa_nil)))
        (pss_one (ps_ret (pe_make mk8 G8 (hr.mono (by decide)) rfl gg8 b8 .nil pass0 (by exact (pa_cons (pe_meth (pv 0) T.cl m4 G4 (hr.mono (by decide)) b4 .nil (L2N.passes_call (L2N.takes_of rfl rfl rfl rfl) (fun _ _ _ _ h => h)) (by exact (pa_cons pe_str pa_nil))) pa_nil))))) pss_nil)
      (pss_cons (ps_if (pt_val (pe_meth (pv 0) T.cl m1 G1 (hr.mono (by decide)) b1 .nil pass0 (pa_cons pe_str pa_nil)))
        (pss_cons (ps_expr (pe_meth (pv 0) T.cl m4 G4 (hr.mono (by decide)) b4 .nil (L2N.passes_call (L2N.takes_of rfl rfl rfl rfl) (fun _ _ _ _ h => h)) (by exact (pa_cons pe_str pa_nil))))
          (pss_one (ps_ret (pe_make mk7 G7 (hr.mono (by decide)) rfl gg7 b7 .nil pass0 (by exact (pa_cons (pe_call0 G6 (hr.mono (by decide)) rfl gg6 k6 b6 .nil pass0) (pa_cons pe_bl pa_nil))))))) pss_nil)
      (pss_one (ps_ret (pe_make mk7 G7 (hr.mono (by decide)) rfl gg7 b7 .nil pass0 (by exact (pa_cons (pe_meth (pv 0) T.cl m5 G5 (hr.mono (by decide)) b5 .nil (L2N.passes_call (L2N.takes_of rfl rfl rfl rfl) (fun _ _ _ _ h => h)) (by exact (pa_cons (pe_gs hS2) pa_nil))) (pa_cons pe_bl pa_nil))))))))), ?_⟩)
  · unfold spSingle at h
    obtain ⟨_, _, _, _, _, _, _, _, rfl, _⟩ := h
    rfl
  unfold spSingle at h
  obtain ⟨a, dx, ag, p, an, ab, g, c, rfl, h, hc, hc1, hc2, hQ⟩ := h
  have hlt := lt_of_some hc
  refine ⟨_, rfl, a, dx, _, rfl, h.1, rF_no (by decide +kernel), ?_⟩
  refine at_use h (by decide +kernel) fun H1 s1 => ?_
  have h1 := h.same s1
  have hQ := RetA.mono hQ (Kept.of_same s1) h1.1
  refine ⟨_, rfl, ?_⟩
  rw [isAt_some hc, at_sign (n := 91) (by decide +kernel)]
  by_cases c91 : c = 91
  · subst c91
    refine if_true_of rfl ?_
    refine ⟨_, rfl, a, dx, _, rfl, h1.1, rF_no (by decide +kernel), ?_⟩
    rw [sing_set hc] at hQ
    exact set_use h1 hc hQ
  refine if_false_of (decide_eq_false c91) ?_
  refine ⟨_, rfl, a, dx, _, rfl, h1.1, rF_no (by decide +kernel), ?_⟩
  refine at_use h1 (by decide +kernel) fun H2 s2 => ?_
  have h2 := h1.same s2
  have hQ := RetA.mono hQ (Kept.of_same s2) h2.1
  refine ⟨_, rfl, ?_⟩
  rw [isAt_some hc, at_sign (n := 92) (by decide +kernel)]
  by_cases c92 : c = 92
  · subst c92
    refine if_true_of rfl ?_
    refine ⟨_, rfl, a, dx, _, rfl, h2.1, rF_no (by decide +kernel), ?_⟩
    exact escA_use h2 hc hQ
  refine if_false_of (decide_eq_false c92) ?_
  refine ⟨_, rfl, a, dx, _, rfl, h2.1, rF_no (by decide +kernel), ?_⟩
  refine at_use h2 (by decide +kernel) fun H3 s3 => ?_
  have h3 := h2.same s3
  have hQ := RetA.mono hQ (Kept.of_same s3) h3.1
  refine ⟨_, rfl, ?_⟩
  rw [isAt_some hc, at_ends]
  -- one of the two signs
  have stand : ∀ (z : Str) (x : Pat), (z = "^" ∨ z = "$" ∨ z = "b") → sg c.toNat = z → FitsW (standW z) x → (cds "^$").contains c.toNat = true → singW g p = .ok (x, p + 1) →
      tRet (tMake cs.s (spSI cs) [] E0 (tCons (tMeth C "take" (spTake K C CF) [] E (tVar 0) (tCons (tC (.str "^$")) tNil)) tNil)) { nx := fun _ H' => Q .non H', rt := Q } [some (.ref a)] H3 := by
    intro z x hz ez fz hcz e1
    rw [e1] at hQ
    have hQ' : ∀ H' v atm, RAt C H' a dx ag (p + 1) an ab → Kept H3 H' a → AtmNew K cs H3 H' v atm → AtmFits atm x → Q v H' := hQ
    refine ⟨_, rfl, a, dx, _, rfl, h3.1, rF_no (by decide +kernel), ?_⟩
    refine take_use h3 ?_
    rw [takeE_yes hc hcz, ez]
    intro H4 r4 k4 y dxx hx hdx hne
    refine si_use ⟨upd_same, fun H8 rg ra hb8 k8 => ⟨rfl, ?_⟩⟩
    have s8 := made_same hx hdx k8
    exact hQ' H8 _ (.stand z) (s8 _ _ r4) (k4.trans (Kept.of_same s8)) ⟨y, dxx, rg, ra, rfl, none_kept k4 r4 hx, hb8⟩ ⟨hz, fz⟩
  by_cases c94 : c = 94
  · subst c94
    refine if_true_of rfl ?_
    exact stand "^" .first (.inl rfl) (by decide +kernel) stand_1 (by rw [at_ends]; rfl) (sing_1 hc)
  by_cases c36 : c = 36
  · subst c36
    refine if_true_of rfl ?_
    exact stand "$" .last (.inr (.inl rfl)) (by decide +kernel) stand_2 (by rw [at_ends]; rfl) (sing_2 hc)
  rw [decide_eq_false c94, decide_eq_false c36]
  refine if_false_of rfl ?_
  refine ⟨_, rfl, a, dx, _, rfl, h3.1, rF_no (by decide +kernel), ?_⟩
  refine at_use h3 (by decide +kernel) fun H4 s4 => ?_
  have h4 := h3.same s4
  have hQ := RetA.mono hQ (Kept.of_same s4) h4.1
  refine ⟨_, rfl, ?_⟩
  rw [isAt_some hc, at_sign (n := 46) (by decide +kernel)]
  by_cases c46 : c = 46
  · subst c46
    refine if_true_of rfl ?_
    rw [sing_dot hc] at hQ
    have hQ' : ∀ H' v atm, RAt C H' a dx ag (p + 1) an ab → Kept H4 H' a → AtmNew K cs H4 H' v atm → AtmFits atm .any → Q v H' := hQ
    refine ⟨_, rfl, a, dx, _, rfl, h4.1, rF_no (by decide +kernel), ?_⟩
    refine take_use h4 ?_
    rw [takeE_yes hc (by decide +kernel)]
    intro H5 r5 k5
    refine every_use ?_
    rintro H6 _ s6 ⟨ar, rfl, har, hrg⟩
    intro x dxx hx hdx hne
    refine oi_use ⟨upd_same, fun H8 rg ra hb8 k8 => ⟨rfl, ?_⟩⟩
    have s8 := made_same hx hdx k8
    have s68 := Same.trans s6 s8
    exact hQ' H8 _ (.one [(0, 1114111)] false) (s68 _ _ r5) (k5.trans (Kept.of_same s68)) ⟨x, dxx, ar, rg, ra, rfl, none_kept k5 r5 (none_same s6 hx), none_kept k5 r5 har, hb8, hrg.same s8⟩ Ways.fits_any
  refine if_false_of (decide_eq_false c46) ?_
  have sp := sing_plain hc hc1 hc2 c91 c92 (fun x => x.elim c46 fun y => y.elim c94 c36)
  refine ⟨_, rfl, a, dx, _, rfl, h4.1, rF_no (by decide +kernel), ?_⟩
  refine plain_use h4 (by decide +kernel) ?_
  cases e : plainE zSigns g p with
  | error y =>
    rw [e] at sp
    dsimp only at sp
    rw [sp] at hQ
    exact hQ
  | ok y =>
    obtain ⟨l, q⟩ := y
    rw [e] at sp
    obtain ⟨x, e2, fx⟩ := sp
    rw [e2] at hQ
    have hQ' : ∀ H' v atm, RAt C H' a dx ag q an ab → Kept H4 H' a → AtmNew K cs H4 H' v atm → AtmFits atm x → Q v H' := hQ
    rintro H5 _ r5 k5 ⟨ar, rfl, har, hrg⟩
    intro x dxx hx hdx hne
    refine oi_use ⟨upd_same, fun H8 rg ra hb8 k8 => ⟨rfl, ?_⟩⟩
    have s8 := made_same hx hdx k8
    exact hQ' H8 _ (.one l false) (s8 _ _ r5) (k5.trans (Kept.of_same s8)) ⟨x, dxx, ar, rg, ra, rfl, none_kept k5 r5 hx, har, hb8, hrg.same s8⟩ fx
end
end Pat
end

section
namespace Pat
open PySem PySem.Spec PyProof.Rows L2
open PySem.FaultX (FaultTxt)
open PatUtf (Fault)
open PatWords (valueP oneP partsP atomP timesP repP)
abbrev zFig : Str := "0123456789"
theorem at_fig (c : UInt8) : (cds zFig).contains c.toNat = PatUtf.isDigit c :=
  beq_iff_eq.mp (u8_all (p := fun c => (cds zFig).contains c.toNat == PatUtf.isDigit c) (by decide +kernel) c)
theorem fig_int : ∀ n < 10, PySem.intText? (sg (48 + n)) = some (n : Int) := by decide +kernel
theorem fig_int' {c : UInt8} (h : PatUtf.isDigit c = true) : PySem.intText? (sg c.toNat) = some ((c.toNat - 48 : Nat) : Int) := by
  unfold PatUtf.isDigit at h
  simp only [Bool.and_eq_true, decide_eq_true_eq] at h
  have e : c.toNat = 48 + (c.toNat - 48) := by omega
  have := fig_int (c.toNat - 48) (by omega)
  rw [← e] at this
  exact this
/-- figures read on from a number -/
def dig (m : Nat) (x : UInt8) : Nat := 10 * m + (x.toNat - 48)
def numE (least : Nat) (g : List UInt8) (p : Nat) : Except Fault (V × Nat) := match timesP p (g.drop p) with
  | .error e => .error e
  | .ok (n, _, q) => if n < least then .error ⟨3, p⟩ else .ok (.int (n : Nat), q)
theorem dig_pos {m : Nat} (h : 0 < m) (x : UInt8) : 0 < dig m x := by
  unfold dig
  omega
/-- what is told of a number whose first figure is no nought, from any place within it on -/
theorem num_rest {least : Nat} {g : List UInt8} {p : Nat} {c : UInt8} (hc : g[p]? = some c) (hd : PatUtf.isDigit c = true) (h48 : c ≠ 48) {q n : Nat} (hq : p < q) (hql : q ≤ g.length)
    (hn : ((c :: g.drop (p + 1)).takeWhile PatUtf.isDigit).foldl dig 0 = ((g.drop q).takeWhile PatUtf.isDigit).foldl dig n) (hlen : ((c :: g.drop (p + 1)).takeWhile PatUtf.isDigit).length = q - p + ((g.drop q).takeWhile PatUtf.isDigit).length)
    (hend : ∀ x, g[q]? = some x → PatUtf.isDigit x = false) :
    numE least g p = if q = g.length then .error ⟨1, q⟩ else if n < least ∨ 20 < n then .error ⟨3, p⟩ else .ok (.int (n : Nat), q) := by
  have hlt := lt_of_some hc
  have et : (g.drop q).takeWhile PatUtf.isDigit = [] := by
    cases e : g[q]? with
    | none => rw [drop_none e]; rfl
    | some x => rw [drop_cons e, List.takeWhile_cons, hend x e]; rfl
  rw [et] at hn hlen
  rw [List.foldl_nil] at hn
  have hlen : ((c :: g.drop (p + 1)).takeWhile PatUtf.isDigit).length = q - p := by
    rw [hlen]
    rfl
  have hbl : (c :: g.drop (p + 1)).length = g.length - p := by rw [← drop_cons hc, List.length_drop]
  unfold numE timesP
  rw [drop_cons hc]
  dsimp only
  rw [if_neg (by rw [hd]; decide), if_neg h48]
  have hf : (fun (m : Nat) (x : UInt8) => 10 * m + (x.toNat - 48)) = dig := rfl
  rw [hf, hn, hlen, hbl]
  by_cases c1 : q = g.length
  · rw [if_pos c1, if_pos (by omega)]
    have : p + (g.length - p) = q := by omega
    rw [this]
  · rw [if_neg c1, if_neg (by omega)]
    unfold PatWords.TIMES
    by_cases c2 : 20 < n
    · rw [if_pos c2, if_pos (Or.inr c2)]
    · rw [if_neg c2]
      have : p + (q - p) = q := by omega
      dsimp only
      by_cases c3 : n < least
      · rw [if_pos c3, if_pos (Or.inl c3)]
      · rw [if_neg c3, if_neg (by omega), this]
section
variable {P : Program} {w : World} {K : PySem.W.Frag} {mg : Str → Option Value} {base : Heap} {C CF fI : Addr} {H H1 H2 : Hp} {a dx ag an ab : Addr} {p q : Nat} {g : List UInt8} {z : Str} {Q : VK} {E : XK}
/-! ### take_number -/
@[irreducible] def spNum (K : PySem.W.Frag) (C CF : Addr) : Sp := fun vs H Q E => ∃ (a dx ag : Addr) (p : Nat) (an ab : Addr) (g : List UInt8) (least : Nat), vs = [.ref a, .int least] ∧ At K C H a dx ag p an ab g ∧ Ret C CF a dx ag an ab H Q E (numE least g p)
theorem num_use {least : Nat} (h : At K C H a dx ag p an ab g) (r : Ret C CF a dx ag an ab H Q E (numE least g p)) : spNum K C CF [.ref a, .int (least : Nat)] H Q E := by
  unfold spNum
  exact ⟨a, dx, ag, p, an, ab, g, least, rfl, h, r⟩
theorem scNum : FnScope ["self", "least", "first_place", "number"] ["self", "least"] (defScope (sR 11)) := ⟨rfl, rfl, rfl, by decide +kernel, rfl, by decide +kernel, by decide +kernel⟩
theorem ok_num {f : Addr} {fd : FuncData} (F : Fun K "take_number" "Reader.take_number" (sR 11) f fd) (T : Txt K mg C CF fI) (hS1 : ∃ t, mg "FIGURES" = some (.str zFig t)) (k20 : ∃ t, mg "MOST_TIMES" = some (.int 20 t)) (k3 : ∃ t, mg "NUMBER_OUT_OF_RANGE" = some (.int 3 t)) (hint : mg "int" = none)
    (M1 : MOk P w K mg base CX0 C 2 "at" ["self", "signs"] (spAt K C)) (M2 : MOk P w K mg base (L2N.CX P w) C 3 "take" ["self", "signs"] (spTake K C CF))
    (M3 : MOk P w K mg base (L2N.CX P w) C 2 "need_byte" ["self"] (spNeed K C CF)) : FnOk P w K mg base (L2N.CX P w) 4 f fd ["self", "least"] (spNum K C CF) := by
  obtain ⟨f1, fd1, m1, b1, G1⟩ := M1
  obtain ⟨f2, fd2, m2, b2, G2⟩ := M2
  obtain ⟨f3, fd3, m3, b3, G3⟩ := M3
  refine F.okN scNum (fun vs H Q E h => ?_) (fun cdv A outer s H vs Q E hr h => ⟨_, pss_cons (ps_set (i := 2) scNum.nd rfl (Or.inl rfl) (pe_fld (pv 0) rfl))
      (pss_cons (ps_set (i := 3) scNum.nd rfl (Or.inl rfl) (pe_callTy call_int_str (by rfl) hint (by decide +kernel) (by exact (pa_cons (pe_meth (pv 0) T.cl m2 G2 hr b2 .nil (L2N.passes_call (L2N.takes_of rfl rfl rfl rfl) (fun _ _ _ _ h => h)) (by exact (pa_cons (pe_gs hS1) pa_nil))) pa_nil))))
      (pss_cons (ps_while (passes_of rfl) (PW.pt (pw_and (pt_cmpR op_gt (pv 3) pe_int (nomark _)) (pw_and1 (pt_val (pe_meth (pv 0) T.cl m1 G1 (hr.mono (by decide)) b1 .nil pass0 (pa_cons (pe_gs hS1) pa_nil))))))
        (pss_one (ps_set (i := 3) scNum.nd rfl (Or.inl rfl) (pe_op op_add (pe_op op_mul (pv 3) pe_int) (pe_callTy call_int_str (by rfl) hint (by decide +kernel) (by exact (pa_cons (pe_meth (pv 0) T.cl m2 G2 hr b2 .nil (L2N.passes_call (L2N.takes_of rfl rfl rfl rfl) (fun _ _ _ _ h => h)) (by exact (pa_cons (pe_gs hS1) pa_nil))) pa_nil)))))))
      (pss_cons (ps_expr (pe_meth0 (pv 0) T.cl m3 G3 (hr.mono (by decide)) b3 .nil (L2N.passes_call (L2N.takes_of rfl rfl rfl rfl) (fun _ _ _ _ h => h))))
      (pss_cons (ps_if (PW.pt (pw_or (pt_cmpR op_lt (pv 3) (pv 1) (nomark _)) (pw_or1 (pt_cmpR op_gt (pv 3) (pe_gi k20) (nomark _)))))
        (pss_one (ps_raiseFault rfl T.ft hr (L2N.takes_of rfl rfl rfl rfl) (by exact (pa_cons (pe_gi k3) (pa_cons (pv 2) pa_nil))))) pss_nil)
      (pss_one (ps_ret (pv 3))))))), ?_⟩)
  · unfold spNum at h
    obtain ⟨_, _, _, _, _, _, _, _, rfl, _⟩ := h
    rfl
  unfold spNum at h
  obtain ⟨a, dx, ag, p, an, ab, g, least, rfl, h, hQ⟩ := h
  refine ⟨_, rfl, a, C, dx, _, _, rfl, h.1, T.cl, T.nP, rF_place, ?_⟩
  refine ⟨_, rfl, a, dx, _, rfl, h.1, rF_no (by decide +kernel), ?_⟩
  refine take_use h ?_
  cases hc : g[p]? with
  | none =>
    rw [takeE_end hc]
    have e : numE least g p = .error ⟨1, p⟩ := by unfold numE; rw [drop_none hc]; rfl
    rw [e] at hQ
    exact hQ
  | some c =>
    have hlt := lt_of_some hc
    cases hd : PatUtf.isDigit c with
    | false =>
      rw [takeE_no hc (by rw [at_fig]; exact hd)]
      have e : numE least g p = .error ⟨2, p⟩ := by
        unfold numE timesP
        rw [drop_cons hc]
        dsimp only
        rw [if_pos hd]
      rw [e] at hQ
      exact hQ
    | true =>
      rw [takeE_yes hc (by rw [at_fig]; exact hd)]
      intro H1 r1 k1
      have h1 := h.next r1 k1 (by omega)
      refine ⟨_, _, rfl, fig_int' hd, (by show 1 ≤ 640; decide), ?_⟩
      -- behind the loop
      have tail : ∀ (q n : Nat) (H5 : Hp), p < q → At K C H5 a dx ag q an ab g → Kept H H5 a → (numE least g p = if q = g.length then .error ⟨1, q⟩ else if n < least ∨ 20 < n then .error ⟨3, p⟩ else .ok (.int (n : Nat), q)) →
          (tSeq (tDrop (tMeth C "need_byte" (spNeed K C CF) [] E (tVar 0) tNil)) (tSeq (tIfS (tOr (tTest (tOp rLt (tVar 3) (tVar 1))) (tTest (tOp (rI0 fun i j => .bl (decide (j < i))) (tVar 3) (tC (.int 20)))))
            (tRaiseFault CF (fun cls d _ H => E cls d H) (tCons (tC (.int 3)) (tCons (tVar 2) tNil))) tNext) (tRet (tVar 3)))) { nx := fun _ H' => Q .non H', rt := Q } [some (.ref a), some (.int (least : Nat)), some (.int (p : Nat)), some (.int (n : Nat))] H5 := by
        intro q n H5 hpq h5 k5 e
        rw [e] at hQ
        refine ⟨_, rfl, a, dx, _, rfl, h5.1, rF_no (by decide +kernel), ?_⟩
        refine need_use h5 (fun c1 => ?_) (fun c1 => ?_)
        · rw [if_pos c1] at hQ
          exact hQ
        · rw [if_neg (by omega)] at hQ
          refine ⟨_, rfl, _, rfl, _, _, rfl, rfl, _, rfl, ?_⟩
          by_cases c2 : n < least
          · rw [if_pos (.inl c2)] at hQ
            have hQ' : Out CF ⟨3, p⟩ E := hQ
            exact if_true_of (decide_eq_true (by omega)) (if_true_of rfl ⟨_, rfl, _, _, rfl, fun d hd => hQ' d _ upd_same⟩)
          · refine if_false_of (decide_eq_false (by omega)) ⟨_, rfl, _, _, rfl, rfl, _, rfl, ?_⟩
            by_cases c3 : 20 < n
            · rw [if_pos (.inr c3)] at hQ
              have hQ' : Out CF ⟨3, p⟩ E := hQ
              exact if_true_of (decide_eq_true (by omega)) ⟨_, rfl, _, _, rfl, fun d hd => hQ' d _ upd_same⟩
            · rw [if_neg (by omega)] at hQ
              have hQ' : ∀ H', RAt C H' a dx ag q an ab → Kept H H' a → Q (.int (n : Nat)) H' := hQ
              exact if_false_of (decide_eq_false (by omega)) ⟨_, rfl, hQ' H5 h5.1 k5⟩
      have hpos48 : c ≠ 48 → 0 < c.toNat - 48 := fun h => by
        unfold PatUtf.isDigit at hd
        simp only [Bool.and_eq_true, decide_eq_true_eq] at hd
        have : c.toNat ≠ 48 := fun e => h ((u8_eq (by decide)).mp e)
        omega
      by_cases h48 : c = 48
      · -- a nought is the whole number
        subst h48
        have e : numE least g p = if p + 1 = g.length then .error ⟨1, p + 1⟩ else if 0 < least ∨ 20 < 0 then .error ⟨3, p⟩ else .ok (.int (0 : Nat), p + 1) := by
          unfold numE timesP
          rw [drop_cons hc]
          dsimp only
          rw [if_neg (by decide), if_pos rfl]
          cases e2 : g[p + 1]? with
          | none =>
            have : p + 1 = g.length := by have := List.getElem?_eq_none_iff.mp e2; omega
            rw [drop_none e2, if_pos this]
          | some x =>
            have := lt_of_some e2
            rw [drop_cons e2, if_neg (by omega)]
            dsimp only
            by_cases c3 : 0 < least
            · rw [if_pos c3, if_pos (.inl c3)]
            · rw [if_neg c3, if_neg (by omega)]
        refine ⟨fun m σ H' => σ = [some (.ref a), some (.int (least : Nat)), some (.int (p : Nat)), some (.int ((0 : Nat) : Int))] ∧ At K C H' a dx ag (p + 1) an ab g ∧ Kept H H' a, ⟨0, rfl, h1, k1⟩, ?_⟩
        rintro m σ H5 ⟨rfl, h5, k5⟩
        refine ⟨_, rfl, _, _, rfl, rfl, _, rfl, if_false_of rfl (if_false_of rfl ?_)⟩
        exact tail (p + 1) 0 H5 (by omega) h5 k5 e
      · refine ⟨fun m σ H' => ∃ (q n : Nat) (i : Int), m = g.length - q ∧ σ = [some (.ref a), some (.int (least : Nat)), some (.int (p : Nat)), some (.int i)] ∧ i = n ∧ At K C H' a dx ag q an ab g ∧ Kept H H' a ∧ p < q ∧ 0 < n ∧
          ((c :: g.drop (p + 1)).takeWhile PatUtf.isDigit).foldl dig 0 = ((g.drop q).takeWhile PatUtf.isDigit).foldl dig n ∧ ((c :: g.drop (p + 1)).takeWhile PatUtf.isDigit).length = q - p + ((g.drop q).takeWhile PatUtf.isDigit).length,
          ⟨_, p + 1, c.toNat - 48, _, rfl, rfl, rfl, h1, k1, by omega, hpos48 h48, ?_, ?_⟩, ?_⟩
        · rw [List.takeWhile_cons, if_pos hd, List.foldl_cons]
          have : dig 0 c = c.toNat - 48 := by unfold dig; omega
          rw [this]
        · rw [List.takeWhile_cons, if_pos hd, List.length_cons]
          omega
        rintro m σ H5 ⟨q, n, i, rfl, rfl, rfl, h5, k5, hpq, hn0, hn, hl⟩
        refine ⟨_, rfl, _, _, rfl, rfl, _, rfl, if_true_of (decide_eq_true (by omega)) ?_⟩
        refine ⟨_, rfl, a, dx, _, rfl, h5.1, rF_no (by decide +kernel), ?_⟩
        refine at_use h5 (by decide +kernel) fun H6 s6 => ?_
        have h6 := h5.same s6
        have k6 := k5.trans (Kept.of_same s6)
        refine ⟨_, rfl, ?_⟩
        cases ea : isAt g q zFig with
        | false =>
          refine if_false_of rfl (tail q n H6 hpq h6 k6 (num_rest hc hd h48 hpq h6.2.2.1 hn hl fun x hx => ?_))
          rw [isAt_some hx, at_fig] at ea
          exact ea
        | true =>
          obtain ⟨x, hx, hxd⟩ : ∃ x, g[q]? = some x ∧ PatUtf.isDigit x = true := by
            cases e : g[q]? with
            | none => rw [isAt_none e] at ea; cases ea
            | some x => rw [isAt_some e, at_fig] at ea; exact ⟨x, rfl, ea⟩
          have hlq := lt_of_some hx
          refine if_true_of rfl ⟨fun σ' H' => ∃ (n' : Nat) (i' : Int), σ' = [some (.ref a), some (.int (least : Nat)), some (.int (p : Nat)), some (.int i')] ∧ i' = n' ∧ At K C H' a dx ag (q + 1) an ab g ∧ Kept H H' a ∧ 0 < n' ∧
            ((c :: g.drop (p + 1)).takeWhile PatUtf.isDigit).foldl dig 0 = ((g.drop (q + 1)).takeWhile PatUtf.isDigit).foldl dig n' ∧ ((c :: g.drop (p + 1)).takeWhile PatUtf.isDigit).length = q + 1 - p + ((g.drop (q + 1)).takeWhile PatUtf.isDigit).length, ?_, ?_⟩
          · rintro σ' H' ⟨n', i', rfl, rfl, h7, k7, hn7, e1, e2⟩
            exact ⟨g.length - (q + 1), by omega, q + 1, n', _, rfl, rfl, rfl, h7, k7, by omega, hn7, e1, e2⟩
          · refine ⟨_, rfl, _, _, rfl, rfl, .inr ⟨by decide, by decide⟩, _, rfl, a, dx, _, rfl, h6.1, rF_no (by decide +kernel), ?_⟩
            refine take_use h6 ?_
            rw [takeE_yes hx (by rw [at_fig]; exact hxd)]
            intro H7 r7 k7
            refine ⟨_, _, rfl, fig_int' hxd, (by show 1 ≤ 640; decide), _, _, rfl, rfl, ?_⟩
            refine ⟨dig n x, _, rfl, ?_, h6.next r7 k7 (by omega), k6.trans k7, dig_pos hn0 x, ?_, ?_⟩
            · unfold dig
              omega
            · rw [hn, drop_cons hx, List.takeWhile_cons, if_pos hxd, List.foldl_cons]
            · rw [hl, drop_cons hx, List.takeWhile_cons, if_pos hxd, List.length_cons]
              omega
end
end Pat
end

section
namespace Pat
open PySem PySem.Spec PyProof.Rows L2
open PySem.FaultX (FaultTxt)
open PatUtf (Fault)
open PatWords (valueP oneP partsP atomP timesP repP Pat)
/-- how often what is repeated stands there, written out -/
def timesOf : Pat → Nat
  | .rep _ m n => match n with
    | some k => k
    | none => max m 1
  | _ => 1
/-- the least and the most of a repetition -/
def repE (g : List UInt8) (p : Nat) : Except Fault (Nat × Option Nat × Nat) := match repP .nothing p (g.drop p) with
  | .error e => .error e
  | .ok (.rep _ m n, _, q) => .ok (m, n, q)
  | .ok (_, _, q) => .ok (0, none, q)
theorem timesP_drop {g : List UInt8} {p n q : Nat} {r : List UInt8} (h : timesP p (g.drop p) = .ok (n, r, q)) : r = g.drop q ∧ p < q ∧ q < g.length := by
  unfold timesP at h
  cases hc : g[p]? with
  | none => rw [drop_none hc] at h; cases h
  | some c =>
    have hlt := lt_of_some hc
    rw [drop_cons hc] at h
    dsimp only at h
    split at h
    · cases h
    rename_i hd
    split at h
    · cases hx : g[p + 1]? with
      | none => rw [drop_none hx] at h; cases h
      | some x =>
        have := lt_of_some hx
        rw [drop_cons hx] at h
        cases h
        exact ⟨(drop_cons hx).symm, by omega, this⟩
    · split at h
      · cases h
      rename_i hl
      split at h
      · cases h
      · have hbl : (c :: g.drop (p + 1)).length = g.length - p := by rw [← drop_cons hc, List.length_drop]
        have hle : ((c :: g.drop (p + 1)).takeWhile PatUtf.isDigit).length ≤ (c :: g.drop (p + 1)).length := (List.takeWhile_prefix _).length_le
        have hpos : 0 < ((c :: g.drop (p + 1)).takeWhile PatUtf.isDigit).length := by
          rw [List.takeWhile_cons, if_pos (by simpa using hd)]
          exact Nat.succ_pos _
        cases h
        refine ⟨?_, by omega, by omega⟩
        rw [← drop_cons hc, List.drop_drop, drop_cons hc]
section
variable {P : Program} {w : World} {K : PySem.W.Frag} {mg : Str → Option Value} {base : Heap} {C CF fI : Addr} {H H1 H2 : Hp} {a dx ag an ab : Addr} {p q : Nat} {g : List UInt8} {z : Str} {Q : VK} {E : XK}
/-- a way out with a tuple of the least and the most -/
def RetM (K : PySem.W.Frag) (C CF : Addr) (a dx ag an ab : Addr) (H : Hp) (Q : VK) (E : XK) (res : Except Fault (Nat × Option Nat × Nat)) : Prop := match res with
  | .error e => Out CF e E
  | .ok (m, n, q) => ∀ H' t, RAt C H' a dx ag q an ab → Kept H H' a → SqT K H' t [.int (m : Nat), optN n] → Q (.ref t) H'
theorem RetM.mono {res : Except Fault (Nat × Option Nat × Nat)} {H0 : Hp} (r : RetM K C CF a dx ag an ab H0 Q E res) (k : Kept H0 H a) : RetM K C CF a dx ag an ab H Q E res := by
  unfold RetM at r ⊢
  cases res with
  | error e => exact r
  | ok y => exact fun H' t r' k' h => r H' t r' (k.trans k') h
/-! ### take_braces -/
@[irreducible] def spBraces (K : PySem.W.Frag) (C CF : Addr) : Sp := fun vs H Q E => ∃ (a dx ag : Addr) (p : Nat) (an ab : Addr) (g : List UInt8), vs = [.ref a] ∧ At K C H a dx ag p an ab g ∧ g[p]? = some 123 ∧ RetM K C CF a dx ag an ab H Q E (repE g p)
theorem braces_use (h : At K C H a dx ag p an ab g) (hc : g[p]? = some 123) (r : RetM K C CF a dx ag an ab H Q E (repE g p)) : spBraces K C CF [.ref a] H Q E := by
  unfold spBraces
  exact ⟨a, dx, ag, p, an, ab, g, rfl, h, hc, r⟩
theorem scBraces : FnScope ["self", "least", "most"] ["self"] (defScope (sR 12)) := ⟨rfl, rfl, rfl, by decide +kernel, rfl, by decide +kernel, by decide +kernel⟩
theorem at_comma (c : UInt8) : (cds ",}").contains c.toNat = (decide (c = 44) || decide (c = 125)) :=
  beq_iff_eq.mp (u8_all (p := fun c => (cds ",}").contains c.toNat == (decide (c = 44) || decide (c = 125))) (by decide +kernel) c)
theorem rep_braces {g : List UInt8} {p : Nat} (h : g[p]? = some 123) : repP .nothing p (g.drop p) = (do
      let (m, s, q) ← timesP (p + 1) (g.drop (p + 1))
      (match s with
        | [] => .error ⟨1, q⟩
        | d :: u => if d = 125 then .ok (.rep .nothing m (some m), u, q + 1) else if d ≠ 44 then .error ⟨2, q⟩ else match u with
          | [] => .error ⟨1, q + 1⟩
          | e :: v => if e = 125 then .ok (.rep .nothing m none, v, q + 2) else do
            let (n, x, k) ← timesP (q + 1) u
            if n < m then .error ⟨3, q + 1⟩ else match x with
              | [] => .error ⟨1, k⟩
              | y :: z => if y = 125 then .ok (.rep .nothing m (some n), z, k + 1) else .error ⟨2, k⟩)) := by
  rw [drop_cons h]
  rfl
theorem ok_braces {f : Addr} {fd : FuncData} (F : Fun K "take_braces" "Reader.take_braces" (sR 12) f fd) (T : Txt K mg C CF fI) 
    (M1 : MOk P w K mg base CX0 C 2 "at" ["self", "signs"] (spAt K C)) (M2 : MOk P w K mg base (L2N.CX P w) C 3 "take" ["self", "signs"] (spTake K C CF))
    (M3 : MOk P w K mg base (L2N.CX P w) C 4 "take_number" ["self", "least"] (spNum K C CF)) : FnOk P w K mg base (L2N.CX P w) 5 f fd ["self"] (spBraces K C CF) := by
  obtain ⟨f1, fd1, m1, b1, G1⟩ := M1
  obtain ⟨f2, fd2, m2, b2, G2⟩ := M2
  obtain ⟨f3, fd3, m3, b3, G3⟩ := M3
  refine F.okN scBraces (fun vs H Q E h => ?_) (fun cdv A outer s H vs Q E hr h => ⟨_, pss_cons (ps_expr (pe_meth (pv 0) T.cl m2 G2 (hr.mono (by decide)) b2 .nil (L2N.passes_call (L2N.takes_of rfl rfl rfl rfl) (fun _ _ _ _ h => h)) (by exact (pa_cons pe_str pa_nil))))
      (pss_cons (ps_set (i := 1) scBraces.nd rfl (Or.inl rfl) (pe_meth (pv 0) T.cl m3 G3 hr b3 .nil (L2N.passes_call (L2N.takes_of rfl rfl rfl rfl) (fun _ _ _ _ h => h)) (by exact (pa_cons pe_int pa_nil))))
      (pss_cons (ps_if (pt_cmpR op_eq (pe_meth (pv 0) T.cl m2 G2 (hr.mono (by decide)) b2 .nil (L2N.passes_call (L2N.takes_of rfl rfl rfl rfl) (fun _ _ _ _ h => h)) (by exact (pa_cons pe_str pa_nil))) pe_str (nomark _)) (pss_one (ps_ret (pe_tup (pa_cons (pv 1) (pa_cons (pv 1) pa_nil))))) pss_nil)
      (pss_cons (ps_if (pt_val (pe_meth (pv 0) T.cl m1 G1 (hr.mono (by decide)) b1 .nil pass0 (pa_cons pe_str pa_nil)))
        (pss_cons (ps_expr (pe_meth (pv 0) T.cl m2 G2 (hr.mono (by decide)) b2 .nil (L2N.passes_call (L2N.takes_of rfl rfl rfl rfl) (fun _ _ _ _ h => h)) (by exact (pa_cons pe_str pa_nil))))
          (pss_one (ps_ret (pe_tup (pa_cons (pv 1) (pa_cons pe_non pa_nil)))))) pss_nil)
      (pss_cons (ps_set (i := 2) scBraces.nd rfl (Or.inl rfl) (pe_meth (pv 0) T.cl m3 G3 hr b3 .nil (L2N.passes_call (L2N.takes_of rfl rfl rfl rfl) (fun _ _ _ _ h => h)) (by exact (pa_cons (pv 1) pa_nil))))
      (pss_cons (ps_expr (pe_meth (pv 0) T.cl m2 G2 (hr.mono (by decide)) b2 .nil (L2N.passes_call (L2N.takes_of rfl rfl rfl rfl) (fun _ _ _ _ h => h)) (by exact (pa_cons pe_str pa_nil))))
      (pss_one (ps_ret (pe_tup (pa_cons (pv 1) (pa_cons (pv 2) pa_nil)))))))))), ?_⟩)
  · unfold spBraces at h
    obtain ⟨_, _, _, _, _, _, _, rfl, _⟩ := h
    rfl
  unfold spBraces at h
  obtain ⟨a, dx, ag, p, an, ab, g, rfl, h, h123, hQ⟩ := h
  have hlt := lt_of_some h123
  unfold repE at hQ
  rw [rep_braces h123] at hQ
  refine ⟨_, rfl, a, dx, _, rfl, h.1, rF_no (by decide +kernel), ?_⟩
  refine take_use h ?_
  rw [takeE_yes h123 (by decide +kernel)]
  intro H1 r1 k1
  have h1 := h.next r1 k1 (by omega)
  refine ⟨_, rfl, a, dx, _, rfl, h1.1, rF_no (by decide +kernel), ?_⟩
  refine num_use (least := 0) h1 ?_
  unfold numE
  cases e1 : timesP (p + 1) (g.drop (p + 1)) with
  | error e => rw [e1] at hQ; exact hQ
  | ok y =>
    obtain ⟨m, s, q⟩ := y
    obtain ⟨hs, hpq, hql⟩ := timesP_drop e1
    subst hs
    rw [e1] at hQ
    dsimp only
    rw [if_neg (by omega)]
    intro H2 r2 k2
    have h2 := h1.next r2 k2 (by omega)
    have k12 := k1.trans k2
    refine ⟨_, rfl, a, dx, _, rfl, h2.1, rF_no (by decide +kernel), ?_⟩
    refine take_use h2 ?_
    have hd : g[q]? = some g[q] := List.getElem?_eq_getElem hql
    simp only [bind, Except.bind] at hQ
    rw [drop_cons hd] at hQ
    dsimp only at hQ
    by_cases c125 : g[q] = 125
    · rw [if_pos c125] at hQ
      rw [takeE_yes hd (by rw [at_comma, c125]; rfl), c125]
      intro H3 r3 k3
      have hQ' : ∀ H' t, RAt C H' a dx ag (q + 1) an ab → Kept H H' a → SqT K H' t [.int (m : Nat), optN (some m)] → Q (.ref t) H' := hQ
      refine ⟨rfl, _, rfl, if_true_of (by decide +kernel) ⟨_, rfl, _, rfl, by show 2 ≤ sizeLine; decide, fun t ht => ?_⟩⟩
      exact hQ' _ t (Same.upd ht _ _ r3) ((k12.trans k3).trans (Kept.of_same (Same.upd ht))) (SqT.of upd_same)
    · rw [if_neg c125] at hQ
      by_cases c44 : g[q] = 44
      · rw [if_neg (fun x => x c44)] at hQ
        rw [takeE_yes hd (by rw [at_comma, c44]; rfl), c44]
        intro H3 r3 k3
        have h3 := h2.next r3 k3 (by omega)
        have k13 := k12.trans k3
        refine ⟨rfl, _, rfl, if_false_of (by decide +kernel) ?_⟩
        refine ⟨_, rfl, a, dx, _, rfl, h3.1, rF_no (by decide +kernel), ?_⟩
        refine at_use h3 (by decide +kernel) fun H4 s4 => ?_
        have h4 := h3.same s4
        have k14 := k13.trans (Kept.of_same s4)
        refine ⟨_, rfl, ?_⟩
        cases he : g[q + 1]? with
        | none =>
          rw [drop_none he] at hQ
          rw [isAt_none he]
          refine if_false_of rfl ?_
          refine ⟨_, rfl, a, dx, _, rfl, h4.1, rF_no (by decide +kernel), _, rfl, ?_⟩
          refine num_use h4 ?_
          unfold numE
          rw [drop_none he]
          exact hQ
        | some e =>
          have hle := lt_of_some he
          rw [drop_cons he] at hQ
          dsimp only at hQ
          rw [isAt_some he, at_sign (n := 125) (by decide +kernel)]
          by_cases e125 : e = 125
          · rw [if_pos e125] at hQ
            subst e125
            refine if_true_of rfl ?_
            refine ⟨_, rfl, a, dx, _, rfl, h4.1, rF_no (by decide +kernel), ?_⟩
            refine take_use h4 ?_
            rw [takeE_yes he (by decide +kernel)]
            intro H5 r5 k5
            have hQ' : ∀ H' t, RAt C H' a dx ag (q + 2) an ab → Kept H H' a → SqT K H' t [.int (m : Nat), optN none] → Q (.ref t) H' := hQ
            refine ⟨_, rfl, by show 2 ≤ sizeLine; decide, fun t ht => ?_⟩
            exact hQ' _ t (Same.upd ht _ _ r5) ((k14.trans k5).trans (Kept.of_same (Same.upd ht))) (SqT.of upd_same)
          · rw [if_neg e125, ← drop_cons he] at hQ
            refine if_false_of (decide_eq_false e125) ?_
            refine ⟨_, rfl, a, dx, _, rfl, h4.1, rF_no (by decide +kernel), _, rfl, ?_⟩
            refine num_use h4 ?_
            unfold numE
            cases e2 : timesP (q + 1) (g.drop (q + 1)) with
            | error x => rw [e2] at hQ; exact hQ
            | ok y2 =>
              obtain ⟨n, x, k⟩ := y2
              obtain ⟨hx, hqk, hkl⟩ := timesP_drop e2
              subst hx
              rw [e2] at hQ
              dsimp only at hQ ⊢
              by_cases cnm : n < m
              · rw [if_pos cnm] at hQ ⊢
                exact hQ
              · rw [if_neg cnm] at hQ ⊢
                intro H5 r5 k5
                have h5 := h4.next r5 k5 (by omega)
                have k15 := k14.trans k5
                refine ⟨_, rfl, a, dx, _, rfl, h5.1, rF_no (by decide +kernel), ?_⟩
                refine take_use h5 ?_
                have hy : g[k]? = some g[k] := List.getElem?_eq_getElem hkl
                rw [drop_cons hy] at hQ
                dsimp only at hQ
                by_cases y125 : g[k] = 125
                · rw [if_pos y125] at hQ
                  rw [takeE_yes hy (by rw [y125]; decide +kernel)]
                  intro H6 r6 k6
                  have hQ' : ∀ H' t, RAt C H' a dx ag (k + 1) an ab → Kept H H' a → SqT K H' t [.int (m : Nat), optN (some n)] → Q (.ref t) H' := hQ
                  refine ⟨_, rfl, _, rfl, by show 2 ≤ sizeLine; decide, fun t ht => ?_⟩
                  exact hQ' _ t (Same.upd ht _ _ r6) ((k15.trans k6).trans (Kept.of_same (Same.upd ht))) (SqT.of upd_same)
                · rw [if_neg y125] at hQ
                  rw [takeE_no hy (by rw [at_sign (n := 125) (by decide +kernel)]; exact decide_eq_false y125)]
                  exact hQ
      · rw [if_pos c44] at hQ
        rw [takeE_no hd (by rw [at_comma]; simp [c44, c125])]
        exact hQ
/-! ### take_times -/
/-- the three signs of repetition in the text that the top has written -/
structure TxR (w : World) (K : PySem.W.Frag) (mg : Str → Option Value) (d t1 t2 t3 : Addr) : Prop where
  at_ : mg "REPETITIONS" = some (.ref d)
  e1 : KDct K w d (sg 42) (V.ref t1)
  e2 : KDct K w d (sg 43) (V.ref t2)
  e3 : KDct K w d (sg 63) (V.ref t3)
  r1 : ∀ H, SqT K H t1 [.int (0 : Nat), optN none]
  r2 : ∀ H, SqT K H t2 [.int (1 : Nat), optN none]
  r3 : ∀ H, SqT K H t3 [.int (0 : Nat), optN (some 1)]
@[irreducible] def spTimes (K : PySem.W.Frag) (C CF : Addr) : Sp := fun vs H Q E => ∃ (a dx ag : Addr) (p : Nat) (an ab : Addr) (g : List UInt8) (c : UInt8), vs = [.ref a] ∧ At K C H a dx ag p an ab g ∧ g[p]? = some c ∧ Mach.isRep c = true ∧ RetM K C CF a dx ag an ab H Q E (repE g p)
theorem times_use {c : UInt8} (h : At K C H a dx ag p an ab g) (hc : g[p]? = some c) (hr : Mach.isRep c = true) (r : RetM K C CF a dx ag an ab H Q E (repE g p)) : spTimes K C CF [.ref a] H Q E := by
  unfold spTimes
  exact ⟨a, dx, ag, p, an, ab, g, c, rfl, h, hc, hr, r⟩
theorem scTimes : FnScope ["self"] ["self"] (defScope (sR 13)) := ⟨rfl, rfl, rfl, by decide +kernel, rfl, by decide +kernel, by decide +kernel⟩
theorem ok_times {f : Addr} {fd : FuncData} (F : Fun K "take_times" "Reader.take_times" (sR 13) f fd) (T : Txt K mg C CF fI) {d t1 t2 t3 : Addr} (TR : TxR w K mg d t1 t2 t3)
    (M1 : MOk P w K mg base CX0 C 2 "at" ["self", "signs"] (spAt K C)) (M2 : MOk P w K mg base (L2N.CX P w) C 5 "take_braces" ["self"] (spBraces K C CF))
    (M3 : MOk P w K mg base (L2N.CX P w) C 3 "take" ["self", "signs"] (spTake K C CF)) : FnOk P w K mg base (L2N.CX P w) 6 f fd ["self"] (spTimes K C CF) := by
  obtain ⟨f1, fd1, m1, b1, G1⟩ := M1
  obtain ⟨f2, fd2, m2, b2, G2⟩ := M2
  obtain ⟨f3, fd3, m3, b3, G3⟩ := M3
  refine F.okN scTimes (fun vs H Q E h => ?_) (fun cdv A outer s H vs Q E hr h => ⟨_, pss_cons (ps_if (pt_val (pe_meth (pv 0) T.cl m1 G1 (hr.mono (by decide)) b1 .nil pass0 (pa_cons pe_str pa_nil)))
        (pss_one (ps_ret (pe_meth0 (pv 0) T.cl m2 G2 hr b2 .nil (L2N.passes_call (L2N.takes_of rfl rfl rfl rfl) (fun _ _ _ _ h => h))))) pss_nil)
      (pss_one (ps_ret (pe_ix ix_kdict (pe_glob (v := .ref d) rfl TR.at_ rfl) (pe_meth (pv 0) T.cl m3 G3 (hr.mono (by decide)) b3 .nil (L2N.passes_call (L2N.takes_of rfl rfl rfl rfl) (fun _ _ _ _ h => h)) (by exact (pa_cons pe_str pa_nil))) (fun _ _ => rfl)))), ?_⟩)
  · unfold spTimes at h
    obtain ⟨_, _, _, _, _, _, _, _, rfl, _⟩ := h
    rfl
  unfold spTimes at h
  obtain ⟨a, dx, ag, p, an, ab, g, c, rfl, h, hc, hrep, hQ⟩ := h
  have hlt := lt_of_some hc
  refine ⟨_, rfl, a, dx, _, rfl, h.1, rF_no (by decide +kernel), ?_⟩
  refine at_use h (by decide +kernel) fun H1 s1 => ?_
  have h1 := h.same s1
  have hQ := RetM.mono hQ (Kept.of_same s1)
  refine ⟨_, rfl, ?_⟩
  rw [isAt_some hc, at_sign (n := 123) (by decide +kernel)]
  by_cases c123 : c = 123
  · subst c123
    refine if_true_of rfl ?_
    refine ⟨_, rfl, a, dx, _, rfl, h1.1, rF_no (by decide +kernel), ?_⟩
    exact braces_use h1 hc hQ
  refine if_false_of (decide_eq_false c123) ?_
  refine ⟨_, rfl, a, dx, _, rfl, h1.1, rF_no (by decide +kernel), ?_⟩
  refine take_use h1 ?_
  have h3c : c = 42 ∨ c = 43 ∨ c = 63 := by
    simp only [Mach.isRep, Bool.or_eq_true, beq_iff_eq] at hrep
    rcases hrep with ((h | h) | h) | h
    · exact .inl h
    · exact .inr (.inl h)
    · exact .inr (.inr h)
    · exact absurd h c123
  rw [takeE_yes hc (by rcases h3c with h | h | h <;> subst h <;> decide +kernel)]
  intro H3 r3 k3
  rcases h3c with hh | hh | hh
  · subst hh
    have e : repE g p = .ok (0, none, p + 1) := by unfold repE; rw [drop_cons hc]; rfl
    rw [e] at hQ
    exact ⟨d, _, _, rfl, rfl, TR.e1, hQ H3 t1 r3 k3 (TR.r1 _)⟩
  · subst hh
    have e : repE g p = .ok (1, none, p + 1) := by unfold repE; rw [drop_cons hc]; rfl
    rw [e] at hQ
    exact ⟨d, _, _, rfl, rfl, TR.e2, hQ H3 t2 r3 k3 (TR.r2 _)⟩
  · subst hh
    have e : repE g p = .ok (0, some 1, p + 1) := by unfold repE; rw [drop_cons hc]; rfl
    rw [e] at hQ
    exact ⟨d, _, _, rfl, rfl, TR.e3, hQ H3 t3 r3 k3 (TR.r3 _)⟩
end
end Pat
end

section
namespace Pat
open PySem PySem.Spec PyProof.Rows L2
open PySem.FaultX (FaultTxt)
open PatUtf (Fault)
/-! ### an open bracket -/
def optI : Option Int → V
  | none => .non
  | some i => .int i
def bF (z : Str) (num : V) (ar : Addr) (n : Int) (l : Option Int) : List (Str × V) := [("closing", .str z), ("number", num), ("rows", .ref ar), ("atoms", .int n), ("last_atoms", optI l)]
section
variable {z : Str} {num : V} {ar : Addr} {n m : Int} {l k : Option Int}
theorem bF_closing : (bF z num ar n l).lookup ("closing" : Str) = some (.str z) := lk_here
theorem bF_number : (bF z num ar n l).lookup ("number" : Str) = some num := (lk_past (by decide +kernel)).trans lk_here
theorem bF_rows : (bF z num ar n l).lookup ("rows" : Str) = some (.ref ar) := (lk_past (by decide +kernel)).trans ((lk_past (by decide +kernel)).trans lk_here)
theorem bF_atoms : (bF z num ar n l).lookup ("atoms" : Str) = some (.int n) := (lk_past (by decide +kernel)).trans ((lk_past (by decide +kernel)).trans ((lk_past (by decide +kernel)).trans lk_here))
theorem bF_last : (bF z num ar n l).lookup ("last_atoms" : Str) = some (optI l) := (lk_past (by decide +kernel)).trans ((lk_past (by decide +kernel)).trans ((lk_past (by decide +kernel)).trans ((lk_past (by decide +kernel)).trans lk_here)))
theorem bF_no {f : Str} (h : (f == ("closing" : Str)) = false ∧ (f == ("number" : Str)) = false ∧ (f == ("rows" : Str)) = false ∧ (f == ("atoms" : Str)) = false ∧ (f == ("last_atoms" : Str)) = false) : (bF z num ar n l).lookup f = none :=
  (lk_past h.1).trans ((lk_past h.2.1).trans ((lk_past h.2.2.1).trans ((lk_past h.2.2.2.1).trans ((lk_past h.2.2.2.2).trans rfl))))
theorem bF_putA : putF "atoms" (.int m) (bF z num ar n l) = bF z num ar m l :=
  (put_past (by decide +kernel)).trans (congrArg _ ((put_past (by decide +kernel)).trans (congrArg _ ((put_past (by decide +kernel)).trans (congrArg _ put_here)))))
theorem bF_putL : putF "last_atoms" (optI k) (bF z num ar n l) = bF z num ar n k :=
  (put_past (by decide +kernel)).trans (congrArg _ ((put_past (by decide +kernel)).trans (congrArg _ ((put_past (by decide +kernel)).trans (congrArg _ ((put_past (by decide +kernel)).trans (congrArg _ put_here)))))))
end
def BAt (CB : Addr) (H : Hp) (b dx : Addr) (z : Str) (num : V) (ar : Addr) (n : Int) (l : Option Int) : Prop := H b = some (.ins CB dx (bF z num ar n l))
structure TxB (K : PySem.W.Frag) (CB : Addr) : Prop where
  cl : Cls K CB
  nC : NoAttr K CB "closing"
  nN : NoAttr K CB "number"
  nR : NoAttr K CB "rows"
  nA : NoAttr K CB "atoms"
  nL : NoAttr K CB "last_atoms"
abbrev sB (j : Nat) : Stmt := inClass (top i_Bracket) j
theorem sql_last {K : PySem.W.Frag} {H : Hp} {ar al : Addr} {as : List Addr} (h : H ar = some (.lst (as.map V.ref ++ [V.ref al]))) : SqL K H ar (as.map V.ref ++ [V.ref al]) := SqL.of h
section
variable {P : Program} {w : World} {K : PySem.W.Frag} {mg : Str → Option Value} {base : Heap} {CB : Addr} {cs : Cs} {H : Hp} {Q : VK} {E : XK}
@[irreducible] def spBInit (CB : Addr) : Sp := fun vs H Q _ => ∃ (b dx : Addr) (z : Str) (num : V), vs = [.ref b, .str z, num] ∧ H b = some (.ins CB dx []) ∧ ∀ H' ar al, BAt CB H' b dx z num ar 0 none → H ar = none → H al = none → ar ≠ al → H' ar = some (.lst [.ref al]) → H' al = some (.lst []) → Kept H H' b → Q .non H'
@[irreducible] def spBAdd (CB : Addr) : Sp := fun vs H Q _ => ∃ (b dx x ar al : Addr) (as : List Addr) (its : List V) (z : Str) (num : V) (n m : Int) (l : Option Int), vs = [.ref b, .ref x, .int m] ∧ BAt CB H b dx z num ar n l ∧ H ar = some (.lst (as.map V.ref ++ [V.ref al])) ∧ H al = some (.lst its) ∧ its.length ≤ 1000 ∧
  ∀ H', BAt CB H' b dx z num ar (n + m) (some m) → H' al = some (.lst (its ++ [V.ref x])) → KeptL H H' [b, al] → Q .non H'
@[irreducible] def spBEnd (CB : Addr) : Sp := fun vs H Q _ => ∃ (b dx ar : Addr) (xs : List V) (z : Str) (num : V) (n : Int) (l : Option Int), vs = [.ref b] ∧ BAt CB H b dx z num ar n l ∧ H ar = some (.lst xs) ∧ xs.length ≤ 1000 ∧
  ∀ H' al, BAt CB H' b dx z num ar n none → H al = none → H' al = some (.lst []) → H' ar = some (.lst (xs ++ [V.ref al])) → KeptL H H' [b, ar] → Q .non H'
theorem scBI : FnScope ["self", "closing", "number"] ["self", "closing", "number"] (defScope (sB 0)) := ⟨rfl, rfl, rfl, by decide +kernel, rfl, by decide +kernel, by decide +kernel⟩
theorem scBA : FnScope ["self", "part", "atoms"] ["self", "part", "atoms"] (defScope (sB 1)) := ⟨rfl, rfl, rfl, by decide +kernel, rfl, by decide +kernel, by decide +kernel⟩
theorem scBE : FnScope ["self"] ["self"] (defScope (sB 3)) := ⟨rfl, rfl, rfl, by decide +kernel, rfl, by decide +kernel, by decide +kernel⟩
theorem ok_binit {f : Addr} {fd : FuncData} (F : Fun K "__init__" "Bracket.__init__" (sB 0) f fd) (T : TxB K CB) : FnOk P w K mg base CX0 1 f fd ["self", "closing", "number"] (spBInit CB) := by
  refine F.ok scBI (fun vs H Q E h => ?_) (fun cdv A outer s H vs Q E hr h => ⟨_, pss_cons (ps_fld (pv 0) (pv 1) rfl) (pss_cons (ps_fld (pv 0) (pv 2) rfl) (pss_cons (ps_fld (pv 0) (pe_lst (pa_cons (pe_lst pa_nil) pa_nil)) rfl) (pss_cons (ps_fld (pv 0) pe_int rfl) (pss_one (ps_fld (pv 0) pe_non rfl))))), ?_⟩)
  · unfold spBInit at h
    obtain ⟨_, _, _, _, rfl, _⟩ := h
    rfl
  unfold spBInit at h
  obtain ⟨b, dx, z, num, rfl, hb, hQ⟩ := h
  refine ⟨_, rfl, _, rfl, b, CB, dx, _, rfl, hb, T.cl, T.nC, by show 0 < 1000; decide, ?_⟩
  refine ⟨_, rfl, _, rfl, b, CB, dx, _, rfl, upd_same, T.cl, T.nN, by show 1 < 1000; decide, ?_⟩
  refine ⟨by show 0 ≤ sizeLine; decide, fun al hal => ⟨by show 1 ≤ sizeLine; decide, fun ar har => ?_⟩⟩
  have hba : b ≠ al := ne_of_none upd_same hal
  have hbr : b ≠ ar := ne_of_none (o := .ins CB dx (putF "number" num (putF "closing" (.str z) []))) ((upd_ne hba).trans upd_same) har
  have hra : ar ≠ al := fun e => by rw [e, upd_same] at har; cases har
  refine ⟨_, rfl, b, CB, dx, _, rfl, (upd_ne hbr).trans ((upd_ne hba).trans upd_same), T.cl, T.nR, by show 2 < 1000; decide, ?_⟩
  rw [nf2 (by decide +kernel) (by decide +kernel) (by decide +kernel)]
  refine ⟨_, rfl, b, CB, dx, _, rfl, upd_same, T.cl, T.nA, by show 3 < 1000; decide, ?_⟩
  have e4 : putF "atoms" (.int 0) [(("closing" : Str), V.str z), (("number" : Str), num), (("rows" : Str), V.ref ar)] = [(("closing" : Str), V.str z), (("number" : Str), num), (("rows" : Str), V.ref ar), (("atoms" : Str), V.int 0)] :=
    (put_past (by decide +kernel)).trans (congrArg _ ((put_past (by decide +kernel)).trans (congrArg _ (put_past (by decide +kernel)))))
  rw [e4]
  refine ⟨_, rfl, b, CB, dx, _, rfl, upd_same, T.cl, T.nL, by show 4 < 1000; decide, ?_⟩
  have e5 : putF "last_atoms" .non [(("closing" : Str), V.str z), (("number" : Str), num), (("rows" : Str), V.ref ar), (("atoms" : Str), V.int 0)] = bF z num ar 0 none :=
    (put_past (by decide +kernel)).trans (congrArg _ ((put_past (by decide +kernel)).trans (congrArg _ ((put_past (by decide +kernel)).trans (congrArg _ (put_past (by decide +kernel)))))))
  rw [e5]
  have n1 : H ar = none := by
    rw [upd_ne hra] at har
    rw [upd_ne hbr.symm, upd_ne hbr.symm] at har
    exact har
  have n2 : H al = none := by
    rw [upd_ne hba.symm, upd_ne hba.symm] at hal
    exact hal
  refine hQ _ ar al upd_same n1 n2 hra ?_ ?_ ?_
  · rw [upd_ne hbr.symm, upd_ne hbr.symm, upd_ne hbr.symm]
    exact upd_same
  · rw [upd_ne hba.symm, upd_ne hba.symm, upd_ne hba.symm, upd_ne hra.symm]
    exact upd_same
  · intro x u h n
    rw [upd_ne n, upd_ne n, upd_ne n, upd_ne (ne_of_none h n1), upd_ne (ne_of_none h n2), upd_ne n, upd_ne n]
    exact h
theorem ok_badd {f : Addr} {fd : FuncData} (F : Fun K "add_atom" "Bracket.add_atom" (sB 1) f fd) (T : TxB K CB) : FnOk P w K mg base CX0 1 f fd ["self", "part", "atoms"] (spBAdd CB) := by
  refine F.ok scBA (fun vs H Q E h => ?_) (fun cdv A outer s H vs Q E hr h => ⟨_, pss_cons (ps_expr (pe_bm PySem.F.plainAttrs_list PySem.F.slot_list_append PySem.F.type_list_append mt_append (pe_ix ix_list (pe_fld (pv 0) rfl) (pe_un un_neg pe_int) (fun _ _ => rfl)) (pa_cons (pv 1) pa_nil)))
      (pss_cons (ps_fldaug (pv 0) (pv 2) in_add) (pss_one (ps_fld (pv 0) (pv 2) rfl))), ?_⟩)
  · unfold spBAdd at h
    obtain ⟨_, _, _, _, _, _, _, _, _, _, _, _, rfl, _⟩ := h
    rfl
  unfold spBAdd at h
  obtain ⟨b, dx, x, ar, al, as, its, z, num, n, m, l, rfl, hb, har, hal, hlen, hQ⟩ := h
  refine ⟨_, rfl, b, CB, dx, _, _, rfl, hb, T.cl, T.nR, bF_rows, _, rfl, ar, _, _, _, rfl, rfl, SqL.of har, atI_last _ _, ?_⟩
  refine ⟨.inl ⟨rfl, _, SqL.of hal⟩, _, rfl, al, _, _, rfl, rfl, hal, small1000 hlen, ?_⟩
  have hba : b ≠ al := ne_of hb hal (by intro z; cases z)
  have hb1 : upd H al (.lst (its ++ [V.ref x])) b = some (.ins CB dx (bF z num ar n l)) := (upd_ne hba).trans hb
  refine ⟨_, rfl, b, CB, dx, _, _, rfl, hb1, T.cl, T.nA, bF_atoms, _, rfl, _, _, rfl, rfl, dx, _, hb1, by show 5 < 1000; decide, ?_⟩
  refine ⟨_, rfl, _, rfl, b, CB, dx, _, rfl, upd_same, T.cl, T.nL, ?_, ?_⟩
  · rw [bF_putA]
    show 5 < 1000
    decide
  · rw [bF_putA]
    refine hQ _ (upd_same.trans (congrArg (fun q => some (HO.ins CB dx q)) (bF_putL (k := some m)))) ?_ ?_
    · exact (upd_ne hba.symm).trans ((upd_ne hba.symm).trans upd_same)
    · exact KeptL.upd (KeptL.upd (KeptL.upd (KeptL.of_same fun _ _ h => h) (by simp)) (by simp)) (by simp)
theorem ok_bend {f : Addr} {fd : FuncData} (F : Fun K "end_row" "Bracket.end_row" (sB 3) f fd) (T : TxB K CB) : FnOk P w K mg base CX0 1 f fd ["self"] (spBEnd CB) := by
  refine F.ok scBE (fun vs H Q E h => ?_) (fun cdv A outer s H vs Q E hr h => ⟨_, pss_cons (ps_expr (pe_bm PySem.F.plainAttrs_list PySem.F.slot_list_append PySem.F.type_list_append mt_append (pe_fld (pv 0) rfl) (pa_cons (pe_lst pa_nil) pa_nil))) (pss_one (ps_fld (pv 0) pe_non rfl)), ?_⟩)
  · unfold spBEnd at h
    obtain ⟨_, _, _, _, _, _, _, _, rfl, _⟩ := h
    rfl
  unfold spBEnd at h
  obtain ⟨b, dx, ar, xs, z, num, n, l, rfl, hb, har, hlen, hQ⟩ := h
  refine ⟨_, rfl, b, CB, dx, _, _, rfl, hb, T.cl, T.nR, bF_rows, .inl ⟨rfl, _, SqL.of har⟩, by show 0 ≤ sizeLine; decide, fun al hal => ?_⟩
  have hra : ar ≠ al := ne_of_none har hal
  have hba : b ≠ al := ne_of_none hb hal
  have hbr : b ≠ ar := ne_of hb har (by intro z; cases z)
  refine ⟨ar, _, _, rfl, rfl, (upd_ne hra).trans har, small1000 hlen, ?_⟩
  refine ⟨_, rfl, b, CB, dx, _, rfl, (upd_ne hbr).trans ((upd_ne hba).trans hb), T.cl, T.nL, by show 5 < 1000; decide, ?_⟩
  refine hQ _ al (upd_same.trans (congrArg (fun q => some (HO.ins CB dx q)) (bF_putL (k := none)))) hal ?_ ?_ ?_
  · exact (upd_ne hba.symm).trans ((upd_ne hra.symm).trans upd_same)
  · exact (upd_ne hbr.symm).trans upd_same
  · exact KeptL.upd (KeptL.upd (KeptL.new (KeptL.of_same fun _ _ h => h) hal) (by simp)) (by simp)
end
end Pat
end

section
namespace Pat
open PySem PySem.Spec PyProof.Rows L2
open PySem.FaultX (FaultTxt)
open PatUtf (Fault)
open PatWords (Name)
open Ways (WF FwdW FitsW FitAll oneWF seqsWF altsWF repWF capWF)
theorem Wd.out {K : PySem.W.Frag} {cs : Cs} {M : PM} {F : Hp} {nm : List Name} (h : Wd K cs M F nm) {b : Addr} (hb : F b = none) : M b = none := by
  cases e : M b with
  | none => rfl
  | some i =>
    obtain ⟨⟨rg, ra, h1⟩, _⟩ := h.node b i e
    rw [hb] at h1
    cases h1
/-- a part that was made is frozen -/
theorem Wd.grow {K : PySem.W.Frag} {cs : Cs} {M : PM} {F H : Hp} {nm : List Name} {S : List Addr} {b dx rg ra : Addr} {kd : Kd} {d : Nat} {wf : WF} (h : Wd K cs M F nm) (s : Same F H) (hF : F b = none) (hb : H b = some (.ins (cs.at kd) dx (nF rg ra kd))) (m : b ∈ S)
    (h2 : Aux K (frz F H S) kd) (h3 : Stat nm M ⟨dx, kd, d, wf⟩) (h4 : FwdW wf) : Wd K cs (addM M b ⟨dx, kd, d, wf⟩) (frz F H S) nm :=
  (h.same same_frz).add (h.out hF) ⟨rg, ra, frz_in s m hb⟩ h2 h3 h4
theorem Wd.le {K : PySem.W.Frag} {cs : Cs} {M : PM} {F : Hp} {nm : List Name} (h : Wd K cs M F nm) {b : Addr} {i : Info} (hb : F b = none) : ∀ x j, M x = some j → addM M b i x = some j := addM_old (h.out hb)
theorem kids_fwd {K : PySem.W.Frag} {cs : Cs} {M : PM} {F : Hp} {nm : List Name} (h : Wd K cs M F nm) {d : Nat} : ∀ {bs : List Addr} {ws : List WF}, Kids M d bs ws → ∀ w ∈ ws, FwdW w
  | [], [], _, _, m => nomatch m
  | [], _ :: _, h, _, _ => h.elim
  | _ :: _, [], h, _, _ => h.elim
  | _ :: _, _ :: _, ⟨⟨i, h1, h2, h3⟩, h4⟩, w, m => by
    rcases List.mem_cons.mp m with e | m
    · rw [e, ← h3]
      exact h.fwd _ _ h1
    · exact kids_fwd h h4 w m
def timesN (m : Nat) : Option Nat → Nat
  | some k => k
  | none => max m 1
section
variable {P : Program} {w : World} {K : PySem.W.Frag} {mg : Str → Option Value} {base : Heap} {CB : Addr} {cs : Cs} {H : Hp} {Q : VK} {E : XK}
/-! ### repeat_atom -/
@[irreducible] def spBRep (CB : Addr) (cs : Cs) : Sp := fun vs H Q _ => ∃ (b dx c ar al : Addr) (as : List Addr) (its : List V) (z : Str) (num : V) (n : Int) (s m : Nat) (mo : Option Nat), vs = [.ref b, .int (m : Nat), optN mo] ∧ m ≤ 20 ∧ (∀ k, mo = some k → k ≤ 20) ∧ BAt CB H b dx z num ar n (some (s : Nat)) ∧ H ar = some (.lst (as.map V.ref ++ [V.ref al])) ∧ H al = some (.lst (its ++ [V.ref c])) ∧ its.length ≤ 1000 ∧ ar ≠ al ∧
  ∀ H' b' dx' rg ra, H b' = none → H' b' = some (.ins cs.p dx' (nF rg ra (.rep c m mo))) → BAt CB H' b dx z num ar (n + (((timesN m mo : Nat) : Int) - 1) * (s : Nat)) none → H' al = some (.lst (its ++ [V.ref b'])) → KeptL H H' [b, al] → Q .non H'
theorem scBR : FnScope ["self", "least", "most", "times", "body"] ["self", "least", "most"] (defScope (sB 2)) := ⟨rfl, rfl, rfl, by decide +kernel, rfl, by decide +kernel, by decide +kernel⟩
theorem ok_brep {f : Addr} {fd : FuncData} (F : Fun K "repeat_atom" "Bracket.repeat_atom" (sB 2) f fd) (T : TxB K CB) (hmax : mg "max" = none) (N1 : NOk P w K mg base cs.p 1 "Repetition" ["self", "body", "least", "most"] (spPI cs)) :
    FnOk P w K mg base CX0 4 f fd ["self", "least", "most"] (spBRep CB cs) := by
  obtain ⟨f1, fd1, mk1, gg1, b1, G1⟩ := N1
  refine F.ok scBR (fun vs H Q E h => ?_) (fun cdv A outer s H vs Q E hr h => ⟨_, pss_cons (ps_set (i := 3) scBR.nd rfl (.inl rfl) (pv 2))
      (pss_cons (ps_if (pt_cmpR op_isN (pv 2) pe_non (nomark _)) (pss_one (ps_set (i := 3) scBR.nd rfl (.inl rfl) (pe_callB (call_max2 rfl) (by rfl) hmax (by decide +kernel) (by exact (pa_cons (pv 1) (pa_cons pe_int pa_nil)))))) pss_nil)
      (pss_cons (ps_set (i := 4) scBR.nd rfl (.inl rfl) (pe_bm0 PySem.F.plainAttrs_list PySem.F.slot_list_pop PySem.F.type_list_pop mt_pop (pe_ix ix_list (pe_fld (pv 0) rfl) (pe_un un_neg pe_int) (fun _ _ => rfl))))
      (pss_cons (ps_expr (pe_bm PySem.F.plainAttrs_list PySem.F.slot_list_append PySem.F.type_list_append mt_append (pe_ix ix_list (pe_fld (pv 0) rfl) (pe_un un_neg pe_int) (fun _ _ => rfl)) (by exact (pa_cons (pe_make mk1 G1 (hr.mono (by decide)) rfl gg1 b1 .nil pass0 (by exact (pa_cons (pv 4) (pa_cons (pv 1) (pa_cons (pv 2) pa_nil))))) pa_nil))))
      (pss_cons (ps_fldaug (pv 0) (pe_op op_mul (pe_op op_sub (pv 3) pe_int) (pe_fld (pv 0) rfl)) in_add)
      (pss_one (ps_fld (pv 0) pe_non rfl)))))), ?_⟩)
  · unfold spBRep at h
    obtain ⟨_, _, _, _, _, _, _, _, _, _, _, _, _, rfl, _⟩ := h
    rfl
  unfold spBRep at h
  obtain ⟨b, dx, c, ar, al, as, its, z, num, n, s0, m, mo, rfl, hm, hmo, hb, har, hal, hlen, hra, hQ⟩ := h
  have ht20 : timesN m mo ≤ 20 := by
    unfold timesN
    cases mo with
    | none => show max m 1 ≤ 20; omega
    | some k => exact hmo k rfl
  have tail : tSeq (tAsg (tBM0 K "list" rPop (tOp (rIxL K) (tFld K (tVar 0) "rows") (tUn (rU fun i => V.int (-i)) (tC (V.int 1))))) (gName 4))
      (tSeq (tDrop (tBM K "list" rAppend (tOp (rIxL K) (tFld K (tVar 0) "rows") (tUn (rU fun i => V.int (-i)) (tC (V.int 1)))) (tCons (tMake cs.p (spPI cs) [] E0 (tCons (tVar 4) (tCons (tVar 1) (tCons (tVar 2) tNil)))) tNil)))
      (tSeq (sFldAug K (tVar 0) (tOp (rI CMul fun i j => V.int (i * j)) (tOp (rI0 fun i j => V.int (i - j)) (tVar 3) (tC (V.int 1))) (tFld K (tVar 0) "last_atoms")) rAdd "atoms") (sFld K (tVar 0) (tC V.non) "last_atoms")))
      { nx := fun x H' => Q V.non H', rt := Q } [some (.ref b), some (.int (m : Nat)), some (optN mo), some (.int (timesN m mo : Nat)), none] H := by
    refine ⟨_, rfl, b, CB, dx, _, _, rfl, hb, T.cl, T.nR, bF_rows, _, rfl, ar, _, _, _, rfl, rfl, SqL.of har, atI_last _ _, ?_⟩
    refine ⟨.inl ⟨rfl, _, .inl (.inl hal)⟩, al, _, V.ref c, rfl, rfl, hal, by simp, ?_⟩
    have hdl : (its ++ [V.ref c]).dropLast = its := List.dropLast_concat
    rw [hdl]
    have hba : b ≠ al := ne_of hb hal (by intro z; cases z)
    have n_of : ∀ x : Addr, H x = none → x ≠ al := fun x hx e => by rw [e, hal] at hx; cases hx
    have hb1 : upd H al (.lst its) b = some (.ins CB dx (bF z num ar n (some (s0 : Nat)))) := (upd_ne hba).trans hb
    have har1 : upd H al (.lst its) ar = some (.lst (as.map V.ref ++ [V.ref al])) := (upd_ne hra).trans har
    refine ⟨_, rfl, b, CB, dx, _, _, rfl, hb1, T.cl, T.nR, bF_rows, _, rfl, ar, _, _, _, rfl, rfl, SqL.of har1, atI_last _ _, ?_⟩
    refine ⟨.inl ⟨rfl, _, SqL.of upd_same⟩, _, rfl, _, rfl, _, rfl, fun b' dx' hn hdx' hne' => ?_⟩
    refine pi_use ⟨upd_same, fun H2 rg ra hb' k2 => ⟨rfl, ?_⟩⟩
    have s2 := made_same hn hdx' k2
    have hnn : H b' = none := by
      by_cases e : b' = al
      · rw [e, upd_same] at hn
        cases hn
      · rw [upd_ne e] at hn
        exact hn
    have hb'a : b' ≠ al := n_of b' hnn
    refine ⟨al, _, _, rfl, rfl, s2 _ _ upd_same, small1000 hlen, ?_⟩
    have hb2 : upd H2 al (.lst (its ++ [V.ref b'])) b = some (.ins CB dx (bF z num ar n (some (s0 : Nat)))) := (upd_ne hba).trans (s2 _ _ hb1)
    refine ⟨_, rfl, b, CB, dx, _, _, rfl, hb2, T.cl, T.nA, bF_atoms, _, rfl, _, _, rfl, rfl, _, rfl, b, CB, dx, _, _, rfl, hb2, T.cl, T.nL, bF_last, _, _, rfl, rfl, .inl ⟨by omega, by omega⟩, _, _, rfl, rfl, dx, _, hb2, by show 5 < 1000; decide, ?_⟩
    refine ⟨_, rfl, b, CB, dx, _, rfl, upd_same, T.cl, T.nL, ?_, ?_⟩
    · rw [bF_putA]
      show 5 < 1000
      decide
    · rw [bF_putA]
      have hbb' : b' ≠ b := fun e => by rw [e, hb] at hnn; cases hnn
      refine hQ _ b' dx' rg ra hnn ?_ (upd_same.trans (congrArg (fun q => some (HO.ins CB dx q)) (bF_putL (k := none)))) ?_ ?_
      · rw [upd_ne hbb', upd_ne hbb', upd_ne hb'a]
        exact hb'
      · exact (upd_ne hba.symm).trans ((upd_ne hba.symm).trans upd_same)
      · have k1 : KeptL H H2 [b, al] := (KeptL.upd (KeptL.of_same fun _ _ h => h) (by simp)).trans (KeptL.of_same s2)
        exact KeptL.upd (KeptL.upd (KeptL.upd k1 (by simp)) (by simp)) (by simp)
  refine ⟨_, rfl, _, rfl, rfl, _, rfl, ?_⟩
  cases mo with
  | none =>
    refine if_true_of rfl ?_
    refine ⟨_, rfl, _, _, rfl, ?_⟩
    have em : (if (1 : Int) > (m : Nat) then (1 : Int) else (m : Nat)) = ((timesN m none : Nat) : Int) := by
      show _ = ((max m 1 : Nat) : Int)
      by_cases c : (1 : Int) > (m : Nat)
      · rw [if_pos c]
        omega
      · rw [if_neg c]
        omega
    rw [em]
    exact tail
  | some k =>
    exact if_false_of rfl tail
/-! ### row_of, choice_of -/
abbrev sRowOf : Stmt := top i_row_of
abbrev sChOf : Stmt := top i_choice_of
/-- one alone, or a new part of a class C -/
def OneOr (C : Addr) (fs : Addr → Addr → Addr → List (Str × V)) : Sp := fun vs H Q _ => ∃ (al : Addr) (bs : List Addr), vs = [.ref al] ∧ H al = some (.lst (bs.map V.ref)) ∧ (∀ x, bs = [x] → Q (.ref x) H) ∧
  (bs.length ≠ 1 → ∀ H' b dx rg ra, H b = none → H' b = some (.ins C dx (fs al rg ra)) → Same H H' → Q (.ref b) H')
@[irreducible] def spRowOf (cs : Cs) : Sp := OneOr cs.r fun al rg ra => nF rg ra (.row al [])
@[irreducible] def spChOf (cs : Cs) : Sp := OneOr cs.c fun al rg ra => nF rg ra (.choice al [])
theorem scRowOf : FnScope ["steps"] ["steps"] (defScope sRowOf) := ⟨rfl, rfl, rfl, by decide +kernel, rfl, by decide +kernel, by decide +kernel⟩
theorem scChOf : FnScope ["rows"] ["rows"] (defScope sChOf) := ⟨rfl, rfl, rfl, by decide +kernel, rfl, by decide +kernel, by decide +kernel⟩
theorem len1 {bs : List Addr} (h : bs.length = 1) : ∃ x, bs = [x] := by
  match bs, h with
  | [x], _ => exact ⟨x, rfl⟩
theorem ok_rowof {f : Addr} {fd : FuncData} (F : Fun K "row_of" "row_of" sRowOf f fd) (hlen : mg "len" = none) (N1 : NOk P w K mg base cs.r 1 "Row" ["self", "steps"] (spRI cs)) : FnOk P w K mg base CX0 3 f fd ["steps"] (spRowOf cs) := by
  obtain ⟨f1, fd1, mk1, gg1, b1, G1⟩ := N1
  refine F.ok scRowOf (fun vs H Q E h => ?_) (fun cdv A outer s H vs Q E hr h => ⟨_, pss_cons (ps_if (pt_cmpR op_eq (pe_callB call_len_seq (by rfl) hlen PySem.boot_len (pa_cons (pv 0) pa_nil)) pe_int (nomark _)) (pss_one (ps_ret (pe_ix ix_list (pv 0) pe_int (fun _ _ => rfl)))) pss_nil)
      (pss_one (ps_ret (pe_make mk1 G1 hr rfl gg1 b1 .nil pass0 (by exact (pa_cons (pv 0) pa_nil))))), ?_⟩)
  · unfold spRowOf at h
    obtain ⟨_, _, rfl, _⟩ := h
    rfl
  unfold spRowOf at h
  obtain ⟨al, bs, rfl, hal, h1, h2⟩ := h
  refine ⟨_, rfl, al, _, rfl, .inl (SqL.of hal), rfl, _, rfl, ?_⟩
  rw [List.length_map]
  by_cases c : bs.length = 1
  · obtain ⟨x, rfl⟩ := len1 c
    exact if_true_of rfl ⟨_, rfl, al, _, _, _, rfl, rfl, SqL.of hal, atI_nat (j := 0) rfl, h1 x rfl⟩
  · refine if_false_of (decide_eq_false fun e => c (by injection e with e; omega)) ?_
    refine ⟨_, rfl, fun x dxx hx hdx hne => ?_⟩
    refine ri_use ⟨upd_same, fun H8 rg ra hb8 k8 => ⟨rfl, ?_⟩⟩
    exact h2 c H8 x dxx rg ra hx hb8 (made_same hx hdx k8)
theorem ok_chof {f : Addr} {fd : FuncData} (F : Fun K "choice_of" "choice_of" sChOf f fd) (hlen : mg "len" = none) (N1 : NOk P w K mg base cs.c 1 "Choice" ["self", "rows"] (spCI cs)) : FnOk P w K mg base CX0 3 f fd ["rows"] (spChOf cs) := by
  obtain ⟨f1, fd1, mk1, gg1, b1, G1⟩ := N1
  refine F.ok scChOf (fun vs H Q E h => ?_) (fun cdv A outer s H vs Q E hr h => ⟨_, pss_cons (ps_if (pt_cmpR op_eq (pe_callB call_len_seq (by rfl) hlen PySem.boot_len (pa_cons (pv 0) pa_nil)) pe_int (nomark _)) (pss_one (ps_ret (pe_ix ix_list (pv 0) pe_int (fun _ _ => rfl)))) pss_nil)
      (pss_one (ps_ret (pe_make mk1 G1 hr rfl gg1 b1 .nil pass0 (by exact (pa_cons (pv 0) pa_nil))))), ?_⟩)
  · unfold spChOf at h
    obtain ⟨_, _, rfl, _⟩ := h
    rfl
  unfold spChOf at h
  obtain ⟨al, bs, rfl, hal, h1, h2⟩ := h
  refine ⟨_, rfl, al, _, rfl, .inl (SqL.of hal), rfl, _, rfl, ?_⟩
  rw [List.length_map]
  by_cases c : bs.length = 1
  · obtain ⟨x, rfl⟩ := len1 c
    exact if_true_of rfl ⟨_, rfl, al, _, _, _, rfl, rfl, SqL.of hal, atI_nat (j := 0) rfl, h1 x rfl⟩
  · refine if_false_of (decide_eq_false fun e => c (by injection e with e; omega)) ?_
    refine ⟨_, rfl, fun x dxx hx hdx hne => ?_⟩
    refine ci_use ⟨upd_same, fun H8 rg ra hb8 k8 => ⟨rfl, ?_⟩⟩
    exact h2 c H8 x dxx rg ra hx hb8 (made_same hx hdx k8)
end
end Pat
end

section
namespace Pat
open PySem PySem.Spec PyProof.Rows L2
open PySem.FaultX (FaultTxt)
open PatUtf (Fault)
open PatWords (Name)
open Ways (WF FwdW FitsW FitAll oneWF seqsWF altsWF repWF capWF)
/-! ### made_part -/
abbrev Rws := List (Addr × List Addr)
/-- the rows of a bracket, each a list of parts -/
def RowsAt (H : Hp) (rows : Rws) : Prop := ∀ r ∈ rows, H r.1 = some (.lst (r.2.map V.ref))
def RowsFit (M : PM) (D : Nat) : Rws → List (List PatWords.Pat) → Prop
  | [], [] => True
  | r :: rs, ps :: pss => AllFit M D r.2 ps ∧ RowsFit M D rs pss
  | _, _ => False
theorem RowsFit.mono {M M' : PM} {D D' : Nat} (hm : ∀ b i, M b = some i → M' b = some i) (hd : D ≤ D') : ∀ {rs : Rws} {pss : List (List PatWords.Pat)}, RowsFit M D rs pss → RowsFit M' D' rs pss
  | [], [], _ => trivial
  | [], _ :: _, h => h.elim
  | _ :: _, [], h => h.elim
  | _ :: _, _ :: _, ⟨h1, h2⟩ => ⟨h1.mono hm hd, RowsFit.mono hm hd h2⟩
theorem RowsFit.len {M : PM} {D : Nat} : ∀ {rs : Rws} {pss : List (List PatWords.Pat)}, RowsFit M D rs pss → rs.length = pss.length
  | [], [], _ => rfl
  | [], _ :: _, h => h.elim
  | _ :: _, [], h => h.elim
  | _ :: _, _ :: _, ⟨_, h2⟩ => congrArg (· + 1) (RowsFit.len h2)
theorem RowsFit.get {M : PM} {D : Nat} : ∀ {rs : Rws} {pss : List (List PatWords.Pat)} {i : Nat} {r : Addr × List Addr}, RowsFit M D rs pss → rs[i]? = some r → ∃ ps, pss[i]? = some ps ∧ AllFit M D r.2 ps
  | [], [], _, _, _, e => nomatch e
  | [], _ :: _, _, _, h, _ => h.elim
  | _ :: _, [], _, _, h, _ => h.elim
  | r :: rs, ps :: pss, 0, u, ⟨h1, h2⟩, e => by
    cases e
    exact ⟨ps, rfl, h1⟩
  | r :: rs, ps :: pss, i + 1, u, ⟨h1, h2⟩, e => RowsFit.get (rs := rs) (pss := pss) (i := i) h2 e
def nameV (nm : List Name) (num : V) : Option Name → Prop
  | none => num = .non
  | some n => ∃ k : Nat, num = .int (k : Nat) ∧ nm[k]? = some n
def atomOf (p : PatWords.Pat) : Option Name → PatWords.Pat
  | none => p
  | some n => .cap n p
/-- what was frozen anew was new, or a row, or a tuple -/
def Grown (H : Hp) (rows : List Addr) (F F' : Hp) : Prop := ∀ y, F' y ≠ none → F y ≠ none ∨ H y = none ∨ y ∈ rows ∨ isTup (H y) = true
section
variable {P : Program} {w : World} {K : PySem.W.Frag} {mg : Str → Option Value} {base : Heap} {CB : Addr} {cs : Cs} {H : Hp} {Q : VK} {E : XK}
/-- what a call that makes a part of frozen ones wishes for -/
def Makes (K : PySem.W.Frag) (cs : Cs) (nm : List Name) (M : PM) (F H : Hp) (rows : List Addr) (p : PatWords.Pat) (D : Nat) (Q : VK) : Prop :=
  ∀ H' M' F' x, Same H H' → Same F F' → Same F' H' → (∀ b i, M b = some i → M' b = some i) → Wd K cs M' F' nm → Grown H rows F F' → Fits M' x p D → Q (.ref x) H'
@[irreducible] def spMade (K : PySem.W.Frag) (CB : Addr) (cs : Cs) : Sp := fun vs H Q _ => ∃ (b dx ar : Addr) (z : Str) (num : V) (n : Int) (l : Option Int) (rows : Rws) (pss : List (List PatWords.Pat)) (M : PM) (F : Hp) (nm : List Name) (name : Option Name) (D : Nat), vs = [.ref b] ∧ BAt CB H b dx z num ar n l ∧ H ar = some (.lst (rows.map fun r => V.ref r.1)) ∧ RowsAt H rows ∧ RowsFit M D rows pss ∧ rows ≠ [] ∧ rows.length ≤ 1000 ∧ (∀ r ∈ rows, r.2.length ≤ 1000) ∧
  Wd K cs M F nm ∧ Same F H ∧ nameV nm num name ∧ Makes K cs nm M F H (rows.map (·.1)) (atomOf (Mach.alts (pss.map Mach.seqs)) name) (D + 3) Q
theorem scMade : FnScope ["self", "choice", "steps"] ["self"] (defScope (sB 4)) := ⟨rfl, rfl, rfl, by decide +kernel, rfl, by decide +kernel, by decide +kernel⟩
theorem tup_same {H H' : Hp} (s : Same H H') {y : Addr} (h : isTup (H' y) = true) : H y = none ∨ isTup (H y) = true := by
  cases e : H y with
  | none => exact .inl rfl
  | some o =>
    right
    rw [← s _ _ e]
    exact h
/-- one more frozen -/
theorem Grown.frz {rows : List Addr} {F F1 H1 : Hp} {S : List Addr} (g : Grown H rows F F1) (s : Same H H1) (hS : ∀ y ∈ S, H y = none ∨ y ∈ rows) : Grown H rows F (frz F1 H1 S) := fun y hy => by
  unfold Pat.frz at hy
  cases e : F1 y with
  | some o => exact g y (by rw [e]; exact fun h => nomatch h)
  | none =>
    rw [e] at hy
    dsimp only at hy
    split at hy
    · rename_i c
      rcases c with c | c
      · rcases hS y c with h | h
        · exact .inr (.inl h)
        · exact .inr (.inr (.inl h))
      · rcases tup_same s c with h | h
        · exact .inr (.inl h)
        · exact .inr (.inr (.inr h))
    · exact absurd rfl hy
theorem ok_made {f : Addr} {fd : FuncData} (F : Fun K "made_part" "Bracket.made_part" (sB 4) f fd) (T : TxB K CB) (G1 : GOk P w K mg base CX0 3 "row_of" ["steps"] (spRowOf cs)) (G2 : GOk P w K mg base CX0 3 "choice_of" ["rows"] (spChOf cs))
    (N3 : NOk P w K mg base cs.k 1 "Capture" ["self", "number", "body"] (spKI cs)) : FnOk P w K mg base CX0 4 f fd ["self"] (spMade K CB cs) := by
  obtain ⟨f1, fd1, gg1, k1, b1, G1⟩ := G1
  obtain ⟨f2, fd2, gg2, k2, b2, G2⟩ := G2
  obtain ⟨f3, fd3, mk3, gg3, b3, G3⟩ := N3
  refine F.ok scMade (fun vs H Q E h => ?_) (fun cdv A outer s H vs Q E hr h => ⟨_, pss_cons (ps_set (i := 1) scMade.nd rfl (.inl rfl) (pe_call G2 hr rfl gg2 k2 b2 .nil pass0 (by exact (pa_cons
        (pe_lc (own := [("steps", 2)]) (g := gName 2) (tt := tYes) (te := tCall (spRowOf cs) [] E0 (tCons (tVar 2) tNil)) rfl scMade.nd (pi_list (pe_fld (pv 0) rfl)) (blkOk_by (N := ["self", "choice", "steps"]) (sc := defScope (sB 4)) (by decide +kernel)) (fun _ _ _ _ _ => pg_name (i := 2) scMade.nd rfl (Or.inl rfl)) (fun _ _ _ _ _ => pts_nil)
          (fun _ _ _ _ _ => by exact (pe_call G1 hr rfl gg1 k1 b1 .nil pass0 (by exact (pa_cons (pv 2) pa_nil))))) pa_nil))))
      (pss_cons (ps_if (pt_cmpR op_isN (pe_fld (pv 0) rfl) pe_non (nomark _)) (pss_one (ps_ret (pv 1))) pss_nil)
      (pss_one (ps_ret (pe_make mk3 G3 (hr.mono (by decide)) rfl gg3 b3 .nil pass0 (by exact (pa_cons (pe_fld (pv 0) rfl) (pa_cons (pv 1) pa_nil))))))), ?_⟩)
  · unfold spMade at h
    obtain ⟨_, _, _, _, _, _, _, _, _, _, _, _, _, _, rfl, _⟩ := h
    rfl
  unfold spMade at h
  obtain ⟨b, dx, ar, z, num, n, l, rows, pss, M, F0, nm, name, D, rfl, hb, har, hrows, hfit, hne, hlr, hl1, hW, hs, hnum, hQ⟩ := h
  have hplen := hfit.len
  refine ⟨_, rfl, b, CB, dx, _, _, rfl, hb, T.cl, T.nR, bF_rows, ar, rfl, ⟨_, SqL.of har⟩, fun L hL => lc_list (xs := rows.map fun r => V.ref r.1) (fun i H' => ∃ (M' : PM) (F' : Hp) (xs : List Addr), H' L = some (.lst (xs.map V.ref)) ∧ Same H H' ∧ Same F0 F' ∧ Same F' H' ∧ F' L = none ∧ (∀ b i, M b = some i → M' b = some i) ∧ Wd K cs M' F' nm ∧ Grown H (rows.map (·.1)) F0 F' ∧ AllFit M' (D + 1) xs ((pss.take i).map Mach.seqs)) ?_ (fun i H' _ h => ?_) ?_ ?_⟩
  · exact ⟨M, F0, [], upd_same, Same.upd hL, fun _ _ h => h, Same.upd' hs (none_same hs hL), none_same hs hL, fun _ _ h => h, hW, fun y h => .inl h, trivial⟩
  · obtain ⟨_, _, _, _, s1, _⟩ := h
    exact SqL.of (s1 _ _ har)
  · rintro i x H1 hx ⟨M1, F1, xs, eL, s1, sF, sFH, hFL, hM, hW1, hg, hfx⟩
    rw [List.getElem?_map] at hx
    cases er : rows[i]? with
    | none => rw [er] at hx; cases hx
    | some r =>
      rw [er] at hx
      cases hx
      obtain ⟨ps, eps, hps⟩ := hfit.get er
      have hrm : r ∈ rows := List.mem_of_getElem? er
      have etk : (pss.take (i + 1)).map Mach.seqs = (pss.take i).map Mach.seqs ++ [Mach.seqs ps] := by
        rw [List.take_add_one, eps, List.map_append]
        rfl
      have hxl : xs.length ≤ 1000 := by
        rw [hfx.len, List.length_map, List.length_take]
        omega
      have hps1 := hps.mono hM (Nat.le_refl D)
      refine ⟨rfl, ?_⟩
      unfold tYes
      dsimp only
      rw [if_pos rfl]
      refine ⟨_, rfl, ?_⟩
      unfold spRowOf
      refine ⟨r.1, r.2, rfl, s1 _ _ (hrows r hrm), ?_, ?_⟩
      · -- one step alone
        intro c ec
        refine ⟨_, eL, small1000 (by rw [List.length_map]; exact hxl), M1, F1, xs ++ [c], ?_, Same.upd' s1 hL, sF, Same.upd' sFH hFL, hFL, hM, hW1, hg, ?_⟩
        · rw [upd_same, List.map_append]
          rfl
        · rw [etk]
          refine AllFit.snoc ?_ hfx
          rw [ec] at hps1
          cases ps with
          | nil => exact hps1.elim
          | cons p ps =>
            cases ps with
            | cons q ps => exact hps1.2.elim
            | nil =>
              obtain ⟨j, h1, h2, h3⟩ := hps1.1
              exact ⟨j, h1, Nat.le_succ_of_le h2, Ways.fits_seq1 h3⟩
      · intro hn1 H2 c dxc rg ra hc hc2 s2
        have hcH : H c = none := none_same s1 hc
        have hcL : L ≠ c := ne_of_none eL hc
        have s12 := Same.trans s1 s2
        have sF2 := Same.trans sFH s2
        have hFc : F1 c = none := none_same sFH hc
        obtain ⟨ws, hk, hfw⟩ := hps1.kids
        have hkd : Aux K (frz F1 H2 [c, r.1]) (.row r.1 r.2) := frz_in sF2 (by simp) (s12 _ _ (hrows r hrm))
        have hst : Stat nm M1 ⟨dxc, .row r.1 r.2, D + 1, seqsWF ws⟩ := ⟨hl1 r hrm, ws, hk, rfl⟩
        have hfw2 := Ways.fwd_seqs (kids_fwd hW1 hk)
        have hW2 := hW1.grow sF2 hFc (S := [c, r.1]) (dx := dxc) (rg := rg) (ra := ra) (kd := .row r.1 r.2) (d := D + 1) (wf := seqsWF ws) hc2 (by simp) hkd hst hfw2
        have hM2 := hW1.le (b := c) (i := ⟨dxc, .row r.1 r.2, D + 1, seqsWF ws⟩) hFc
        have eL2 : H2 L = some (.lst (xs.map V.ref)) := s2 _ _ eL
        have hrL : L ≠ r.1 := fun e => by
          have := hrows r hrm
          rw [← e, hL] at this
          cases this
        have hFL2 : frz F1 H2 [c, r.1] L = none := frz_out hFL (by simp [hcL, hrL]) (by rw [eL2]; rfl)
        refine ⟨_, eL2, small1000 (by rw [List.length_map]; exact hxl), addM M1 c _, frz F1 H2 [c, r.1], xs ++ [c], ?_, Same.upd' s12 hL, Same.trans sF same_frz, Same.upd' (frz_same sF2) hFL2, hFL2, fun b i h => hM2 b i (hM b i h), hW2, ?_, ?_⟩
        · rw [upd_same, List.map_append]
          rfl
        · refine Grown.frz hg s12 fun y hy => ?_
          rcases List.mem_cons.mp hy with e | hy
          · rw [e]
            exact .inl hcH
          · rw [List.mem_singleton.mp hy]
            exact .inr (List.mem_map.mpr ⟨r, hrm, rfl⟩)
        · rw [etk]
          exact AllFit.snoc ⟨_, addM_same, Nat.le_refl _, Ways.fits_seqs hfw⟩ (hfx.mono hM2 (Nat.le_refl _))
  · rintro H1 ⟨M1, F1, xs, eL, s1, sF, sFH, hFL, hM, hW1, hg, hfx⟩
    have etk : pss.take (rows.map fun r => V.ref r.1).length = pss := List.take_of_length_le (by rw [List.length_map]; omega)
    rw [etk] at hfx
    have hxl : xs.length ≤ 1000 := by
      rw [hfx.len, List.length_map]
      omega
    have hxne : xs ≠ [] := fun e => by
      have := hfx.len
      rw [e, List.length_map, List.length_nil] at this
      cases rows with
      | nil => exact hne rfl
      | cons r rs => rw [List.length_cons] at hplen; omega
    -- behind the choice
    have tail : ∀ (H2 : Hp) (M2 : PM) (F2 : Hp) (x : Addr), Same H H2 → Same F0 F2 → Same F2 H2 → (∀ b i, M b = some i → M2 b = some i) → Wd K cs M2 F2 nm → Grown H (rows.map (·.1)) F0 F2 → Fits M2 x (Mach.alts (pss.map Mach.seqs)) (D + 2) →
        (tSeq (tIfS (tTest (tOp (fun x y H Q => y = V.non ∧ Q (V.bl (decide (x = V.non))) H) (tFld K (tVar 0) "number") (tC V.non))) (tRet (tVar 1)) tNext) (tRet (tMake cs.k (spKI cs) [] E0 (tCons (tFld K (tVar 0) "number") (tCons (tVar 1) tNil))))) { nx := fun _ H' => Q .non H', rt := Q } [some (.ref b), some (.ref x), none] H2 := by
      intro H2 M2 F2 x s2 sF2 sFH2 hM2 hW2 hg2 hx2
      have hb2 : BAt CB H2 b dx z num ar n l := s2 _ _ hb
      refine ⟨_, rfl, b, CB, dx, _, _, rfl, hb2, T.cl, T.nN, bF_number, rfl, _, rfl, ?_⟩
      cases name with
      | none =>
        have hnum : num = .non := hnum
        refine if_true_of (decide_eq_true hnum) ⟨_, rfl, ?_⟩
        exact hQ H2 M2 F2 x s2 sF2 sFH2 hM2 hW2 hg2 (hx2.mono (fun _ _ h => h) (Nat.le_succ _))
      | some nme =>
        obtain ⟨k, hk, hnk⟩ : ∃ k : Nat, num = .int (k : Nat) ∧ nm[k]? = some nme := hnum
        subst hk
        refine if_false_of rfl ?_
        refine ⟨_, rfl, b, CB, dx, _, _, rfl, hb2, T.cl, T.nN, bF_number, _, rfl, fun c dxc hc hdc hne => ?_⟩
        refine ki_use ⟨upd_same, fun H3 rg ra hc3 k3 => ⟨rfl, ?_⟩⟩
        have s3 := made_same hc hdc k3
        have hcH : H c = none := none_same s2 hc
        have hFc : F2 c = none := none_same sFH2 hc
        have sF3 := Same.trans sFH2 s3
        obtain ⟨j, hj1, hj2, hj3⟩ := hx2
        have hst : Stat nm M2 ⟨dxc, .cap k x, D + 3, capWF nme j.wf⟩ := ⟨j, nme, hj1, Nat.lt_succ_of_le hj2, hnk, rfl⟩
        have hW3 := hW2.grow sF3 hFc (S := [c]) (dx := dxc) (rg := rg) (ra := ra) (kd := .cap k x) (d := D + 3) (wf := capWF nme j.wf) hc3 (by simp) trivial hst (Ways.fwd_cap (hW2.fwd _ _ hj1))
        refine hQ H3 _ (frz F2 H3 [c]) c (Same.trans s2 s3) (Same.trans sF2 same_frz) (frz_same sF3) (fun y i h => hW2.le hFc y i (hM2 y i h)) hW3 (Grown.frz hg2 (Same.trans s2 s3) fun y hy => ?_) ⟨_, addM_same, Nat.le_refl _, Ways.fits_cap hj3⟩
        rw [List.mem_singleton.mp hy]
        exact .inl hcH
    show spChOf cs [.ref L] H1 _ E0
    unfold spChOf
    refine ⟨L, xs, rfl, eL, ?_, ?_⟩
    · -- one row alone
      intro x ex
      rw [ex] at hfx
      refine tail H1 M1 F1 x s1 sF sFH hM hW1 hg ?_
      cases pss with
      | nil => exact hfx.elim
      | cons ps pss =>
        cases pss with
        | cons qs pss => exact hfx.2.elim
        | nil =>
          exact hfx.1.mono (fun _ _ h => h) (Nat.le_succ _)
    · intro hn1 H2 c dxc rg ra hc hc2 s2
      have hcH : H c = none := none_same s1 hc
      have hFc : F1 c = none := none_same sFH hc
      have sF2 := Same.trans sFH s2
      obtain ⟨ws, hk, hfw⟩ := hfx.kids
      have hwne : ws ≠ [] := fun e => by
        rw [e] at hk
        cases xs with
        | nil => exact hxne rfl
        | cons y ys => exact hk.elim
      have hkd : Aux K (frz F1 H2 [c, L]) (.choice L xs) := frz_in sF2 (by simp) (s2 _ _ eL)
      have hst : Stat nm M1 ⟨dxc, .choice L xs, D + 2, altsWF ws⟩ := ⟨hxl, ws, hk, rfl⟩
      have hW2 := hW1.grow sF2 hFc (S := [c, L]) (dx := dxc) (rg := rg) (ra := ra) (kd := .choice L xs) (d := D + 2) (wf := altsWF ws) hc2 (by simp) hkd hst (Ways.fwd_alts (kids_fwd hW1 hk))
      refine tail H2 _ (frz F1 H2 [c, L]) c (Same.trans s1 s2) (Same.trans sF same_frz) (frz_same sF2) (fun y i h => hW1.le hFc y i (hM y i h)) hW2 (Grown.frz hg (Same.trans s1 s2) fun y hy => ?_) ⟨_, addM_same, Nat.le_refl _, Ways.fits_alts hfw hwne⟩
      rcases List.mem_cons.mp hy with e | hy
      · rw [e]
        exact .inl hcH
      · rw [List.mem_singleton.mp hy]
        exact .inl hL
end
end Pat
end

section
namespace Pat
open PySem PySem.Spec PyProof.Rows L2
open PySem.FaultX (FaultTxt)
open PatUtf (Fault)
open PatWords (Pat repP Name)
open Mach (Fr)
open Ways (WF FwdW FitsW FitAll oneWF seqsWF altsWF repWF capWF)
/-! ### sizes -/
def fsize (fr : Fr) : Nat := (fr.rows.map Pat.size).sum + (fr.items.map Pat.size).sum
theorem seqs_size : ∀ l : List Pat, (Mach.seqs l).size = (l.map Pat.size).sum
  | [] => rfl
  | a :: l => by
    show a.size + (Mach.seqs l).size = _
    rw [seqs_size l, List.map_cons, List.sum_cons]
theorem alts_size : ∀ l : List Pat, (Mach.alts l).size = (l.map Pat.size).sum
  | [] => rfl
  | [a] => by simp [Mach.alts]
  | a :: b :: l => by
    show a.size + (Mach.alts (b :: l)).size = ((a :: b :: l).map Pat.size).sum
    simp only [alts_size (b :: l), List.map_cons, List.sum_cons]
theorem pat_size (fr : Fr) : fr.pat.size = fsize fr := by
  unfold Mach.Fr.pat fsize
  rw [alts_size, List.map_append, List.sum_append, List.map_singleton, List.sum_singleton, seqs_size]
theorem atom_size (fr : Fr) : fr.atom.size = fsize fr := by
  unfold Mach.Fr.atom
  cases fr.name with
  | none => exact pat_size fr
  | some n =>
    show fr.pat.size = _
    exact pat_size fr
def flast (fr : Fr) : Option Int := if fr.last = true then some (((fr.items.getLast?.getD .nothing).size : Nat) : Int) else none
def fclose (fr : Fr) : Str := ⟨(fr.close.map (·.toNat)).toArray⟩
theorem push_size (fr : Fr) (a : Pat) : fsize (fr.push a) = fsize fr + a.size := by
  unfold fsize Mach.Fr.push
  simp only [List.map_append, List.sum_append, List.map_singleton, List.sum_singleton]
  omega
theorem push_last (fr : Fr) (a : Pat) : flast (fr.push a) = some ((a.size : Nat) : Int) := by
  unfold flast Mach.Fr.push
  simp
theorem bar_size (fr : Fr) : fsize fr.bar = fsize fr := by
  unfold fsize Mach.Fr.bar
  simp only [List.map_append, List.sum_append, List.map_singleton, List.sum_singleton, seqs_size, List.map_nil, List.sum_nil]
  omega
theorem bar_last (fr : Fr) : flast fr.bar = none := rfl
theorem swap_last (fr : Fr) (a : Pat) : flast (fr.swap a) = none := rfl
/-! ### the pile of brackets in the heap -/
structure Bk where
  b : Addr
  dx : Addr
  ar : Addr
  num : V
  rows : Rws
def Bk.foot (k : Bk) : List Addr := k.b :: k.ar :: k.rows.map (·.1)
def foots (ks : List Bk) : List Addr := ks.flatMap Bk.foot
/-- a bracket, h of them below it, as far as p has been read -/
structure BrOk (CB : Addr) (H : Hp) (M : PM) (nm : List Name) (p h : Nat) (k : Bk) (fr : Fr) : Prop where
  at_ : BAt CB H k.b k.dx (fclose fr) k.num k.ar ((fsize fr : Nat) : Int) (flast fr)
  arl : H k.ar = some (.lst (k.rows.map fun r => V.ref r.1))
  rws : RowsAt H k.rows
  fit : ∃ rss, RowsFit M (2 * (p - h)) k.rows (rss ++ [fr.items]) ∧ fr.rows = rss.map Mach.seqs
  num : nameV nm k.num fr.name
  last : fr.last = true → fr.items ≠ []
  clo : fr.close.length ≤ 1
  out : h = 0 → fr.close = [] ∧ fr.name = none
  rlen : k.rows.length ≤ p + 1
  ilen : ∀ r ∈ k.rows, r.2.length ≤ p
def Stk (CB : Addr) (H : Hp) (M : PM) (nm : List Name) (p : Nat) : List Bk → List Fr → Prop
  | [], [] => True
  | k :: ks, fr :: frs => BrOk CB H M nm p frs.length k fr ∧ Stk CB H M nm p ks frs
  | _, _ => False
def Sep (A B : List Addr) : Prop := ∀ x ∈ A, x ∉ B
def Foots : List Bk → Prop
  | [] => True
  | k :: ks => k.foot.Nodup ∧ Sep k.foot (foots ks) ∧ Foots ks
theorem foots_cons {k : Bk} {ks : List Bk} : foots (k :: ks) = k.foot ++ foots ks := rfl
theorem nameV.mono {nm nm' : List Name} {num : V} {o : Option Name} (h : nameV nm num o) (hn : ∀ (k : Nat) (n : Name), nm[k]? = some n → nm'[k]? = some n) : nameV nm' num o := by
  cases o with
  | none => exact h
  | some n =>
    obtain ⟨k, h1, h2⟩ := h
    exact ⟨k, h1, hn _ _ h2⟩
theorem BrOk.keep {CB : Addr} {H H' : Hp} {M M' : PM} {nm nm' : List Name} {p p' h : Nat} {k : Bk} {fr : Fr} (x : BrOk CB H M nm p h k fr) (kk : ∀ b o, H b = some o → b ∈ k.foot → H' b = some o) (hM : ∀ b i, M b = some i → M' b = some i)
    (hn : ∀ (k : Nat) (n : Name), nm[k]? = some n → nm'[k]? = some n) (hp : p ≤ p') : BrOk CB H' M' nm' p' h k fr where
  at_ := kk _ _ x.at_ (List.mem_cons_self ..)
  arl := kk _ _ x.arl (List.mem_cons_of_mem _ (List.mem_cons_self ..))
  rws := fun r m => kk _ _ (x.rws r m) (List.mem_cons_of_mem _ (List.mem_cons_of_mem _ (List.mem_map.mpr ⟨r, m, rfl⟩)))
  fit := by
    obtain ⟨rss, h1, h2⟩ := x.fit
    exact ⟨rss, h1.mono hM (by omega), h2⟩
  num := x.num.mono hn
  last := x.last
  clo := x.clo
  out := x.out
  rlen := Nat.le_trans x.rlen (by omega)
  ilen := fun r m => Nat.le_trans (x.ilen r m) hp
theorem Stk.keep {CB : Addr} {H H' : Hp} {M M' : PM} {nm nm' : List Name} {p p' : Nat} (hM : ∀ b i, M b = some i → M' b = some i)
    (hn : ∀ (k : Nat) (n : Name), nm[k]? = some n → nm'[k]? = some n) (hp : p ≤ p') : ∀ {ks : List Bk} {frs : List Fr}, Stk CB H M nm p ks frs → (∀ b o, H b = some o → b ∈ foots ks → H' b = some o) → Stk CB H' M' nm' p' ks frs
  | [], [], _, _ => trivial
  | [], _ :: _, h, _ => h.elim
  | _ :: _, [], h, _ => h.elim
  | k :: ks, fr :: frs, ⟨h1, h2⟩, kk =>
    ⟨h1.keep (fun b o e m => kk b o e (by rw [foots_cons]; exact List.mem_append_left _ m)) hM hn hp, Stk.keep hM hn hp h2 fun b o e m => kk b o e (by rw [foots_cons]; exact List.mem_append_right _ m)⟩
theorem BrOk.there {CB : Addr} {H : Hp} {M : PM} {nm : List Name} {p h : Nat} {k : Bk} {fr : Fr} (x : BrOk CB H M nm p h k fr) : ∀ y ∈ k.foot, H y ≠ none := fun y m => by
  rcases List.mem_cons.mp m with e | m
  · rw [e, x.at_]
    exact fun h => nomatch h
  rcases List.mem_cons.mp m with e | m
  · rw [e, x.arl]
    exact fun h => nomatch h
  · obtain ⟨r, hr, rfl⟩ := List.mem_map.mp m
    rw [x.rws r hr]
    exact fun h => nomatch h
theorem Stk.there {CB : Addr} {H : Hp} {M : PM} {nm : List Name} {p : Nat} : ∀ {ks : List Bk} {frs : List Fr}, Stk CB H M nm p ks frs → ∀ y ∈ foots ks, H y ≠ none
  | [], [], _, _, m => nomatch m
  | [], _ :: _, h, _, _ => h.elim
  | _ :: _, [], h, _, _ => h.elim
  | k :: ks, fr :: frs, ⟨h1, h2⟩, y, m => by
    rw [foots_cons] at m
    rcases List.mem_append.mp m with m | m
    · exact h1.there y m
    · exact Stk.there h2 y m
theorem Stk.len {CB : Addr} {H : Hp} {M : PM} {nm : List Name} {p : Nat} : ∀ {ks : List Bk} {frs : List Fr}, Stk CB H M nm p ks frs → ks.length = frs.length
  | [], [], _ => rfl
  | [], _ :: _, h => h.elim
  | _ :: _, [], h => h.elim
  | k :: ks, fr :: frs, ⟨_, h4⟩ => congrArg (· + 1) (Stk.len h4)
def Nms (K : PySem.W.Frag) (H : Hp) : List Addr → List (Nat × Name) → Prop
  | [], [] => True
  | t :: ts, n :: ns => SqT K H t [.int (n.1 : Nat), .int (n.2.length : Nat)] ∧ Nms K H ts ns
  | _, _ => False
theorem Nms.map {K : PySem.W.Frag} {H H' : Hp} (k : ∀ t xs, SqT K H t xs → SqT K H' t xs) : ∀ {ts : List Addr} {ns : List (Nat × Name)}, Nms K H ts ns → Nms K H' ts ns
  | [], [], _ => trivial
  | [], _ :: _, h => h.elim
  | _ :: _, [], h => h.elim
  | t :: ts, n :: ns, ⟨h1, h2⟩ => ⟨k _ _ h1, Nms.map k h2⟩
theorem Nms.len {K : PySem.W.Frag} {H : Hp} : ∀ {ts : List Addr} {ns : List (Nat × Name)}, Nms K H ts ns → ts.length = ns.length
  | [], [], _ => rfl
  | [], _ :: _, h => h.elim
  | _ :: _, [], h => h.elim
  | t :: ts, n :: ns, ⟨h1, h2⟩ => congrArg (· + 1) (Nms.len h2)
theorem Nms.snoc {K : PySem.W.Frag} {H : Hp} {t : Addr} {n : Nat × Name} (ht : SqT K H t [.int (n.1 : Nat), .int (n.2.length : Nat)]) : ∀ {ts : List Addr} {ns : List (Nat × Name)}, Nms K H ts ns → Nms K H (ts ++ [t]) (ns ++ [n])
  | [], [], _ => ⟨ht, trivial⟩
  | [], _ :: _, h => h.elim
  | _ :: _, [], h => h.elim
  | _ :: ts, _ :: ns, ⟨h1, h2⟩ => ⟨h1, Nms.snoc ht h2⟩
theorem Nms.get {K : PySem.W.Frag} {H : Hp} : ∀ {ts : List Addr} {ns : List (Nat × Name)} {i : Nat} {t : Addr}, Nms K H ts ns → ts[i]? = some t → ∃ n, ns[i]? = some n ∧ SqT K H t [.int (n.1 : Nat), .int (n.2.length : Nat)]
  | [], [], _, _, _, e => nomatch e
  | [], _ :: _, _, _, h, _ => h.elim
  | _ :: _, [], _, _, h, _ => h.elim
  | t :: ts, n :: ns, 0, u, ⟨h1, h2⟩, e => by
    cases e
    exact ⟨n, rfl, h1⟩
  | t :: ts, n :: ns, i + 1, u, ⟨h1, h2⟩, e => Nms.get (ts := ts) (ns := ns) (i := i) h2 e
def NmOk (g : List UInt8) (x : Nat × Name) : Prop := x.2 = (g.drop x.1).take x.2.length
def nmsOf (st : Mach.St) : List Name := st.ns.map (·.2)
/-- the reader at a, all of it -/
structure RS (K : PySem.W.Frag) (C CB : Addr) (cs : Cs) (H : Hp) (a dx ag an ab : Addr) (g : List UInt8) (ts : List Addr) (ks : List Bk) (M : PM) (F : Hp) (st : Mach.St) : Prop where
  rd : At K C H a dx ag st.p an ab g
  b : st.b = g.drop st.p
  nl : H an = some (.lst (ts.map V.ref))
  nm : Nms K H ts st.ns
  ok : ∀ x ∈ st.ns, NmOk g x
  bl : H ab = some (.lst ((ks.map Bk.b).reverse.map V.ref))
  sk : Stk CB H M (nmsOf st) st.p ks st.frs
  wd : Wd K cs M F (nmsOf st)
  fz : Same F H
  sq : SqL K F ag (gv g)
  n1 : a ≠ an ∧ a ≠ ab ∧ an ≠ ab
  n2 : Sep [a, an, ab] (foots ks)
  n3 : Foots ks
  fm : ∀ x ∈ [a, an, ab] ++ foots ks, F x = none
  nmd : (nmsOf st).Nodup
  nlen : st.ns.length ≤ 16
  flen : st.frs.length ≤ 41
  plen : st.frs.length ≤ st.p + 1
  g128 : g.length ≤ 128
theorem same_upd {F H : Hp} {x : Addr} {o : HO} (s : Same F H) (h : F x = none) : Same F (upd H x o) := Same.upd' s h
section
variable {K : PySem.W.Frag} {C CB CF : Addr} {cs : Cs} {H H1 : Hp} {a dx ag an ab : Addr} {g : List UInt8} {ts : List Addr} {ks : List Bk} {M M1 : PM} {F F1 : Hp} {st : Mach.St} {q : Nat} {Q : VK} {E : XK}
theorem sql_same {K : PySem.W.Frag} {H H' : Hp} {t : Addr} {xs : List V} (h : SqL K H t xs) (s : Same H H') : SqL K H' t xs := Same.seq s h
theorem Same.of_kept {a : Addr} (s : Same F H) (ha : F a = none) (k : Kept H H1 a) : Same F H1 := fun b o h => k b o (s b o h) (fun e => by rw [e, ha] at h; cases h)
theorem Same.of_keptL' {S : List Addr} (s : Same F H) (ha : ∀ x ∈ S, F x = none) (k : KeptL H H1 S) : Same F H1 := fun b o h => k b o (s b o h) (fun m => by rw [ha b m] at h; cases h)
theorem RS.fa (h : RS K C CB cs H a dx ag an ab g ts ks M F st) : F a = none := h.fm a (by simp)
theorem RS.fn (h : RS K C CB cs H a dx ag an ab g ts ks M F st) : F an = none := h.fm an (by simp)
theorem RS.fb (h : RS K C CB cs H a dx ag an ab g ts ks M F st) : F ab = none := h.fm ab (by simp)
theorem RS.go (h : RS K C CB cs H a dx ag an ab g ts ks M F st) (r : RAt C H1 a dx ag q an ab) (k : Kept H H1 a) (hq : q ≤ g.length) (hpq : st.p ≤ q) : RS K C CB cs H1 a dx ag an ab g ts ks M F { st with p := q, b := g.drop q } where
  rd := h.rd.next r k hq
  b := rfl
  nl := k _ _ h.nl h.n1.1.symm
  nm := Nms.map (fun t xs e => sqt_kept e h.rd.1 k) h.nm
  ok := h.ok
  bl := k _ _ h.bl h.n1.2.1.symm
  sk := Stk.keep (fun _ _ h => h) (fun _ _ h => h) hpq h.sk fun b o e m => k b o e fun x => h.n2 a (by simp) (by rw [← x]; exact m)
  wd := h.wd
  fz := Same.of_kept h.fz h.fa k
  sq := h.sq
  n1 := h.n1
  n2 := h.n2
  n3 := h.n3
  fm := h.fm
  nmd := h.nmd
  nlen := h.nlen
  flen := h.flen
  plen := Nat.le_trans h.plen (by show st.p + 1 ≤ q + 1; omega)
  g128 := h.g128
theorem sqt_same {K : PySem.W.Frag} {H H' : Hp} {t : Addr} {xs : List V} (h : SqT K H t xs) (s : Same H H') : SqT K H' t xs := sqt_same' h s
theorem RS.same (h : RS K C CB cs H a dx ag an ab g ts ks M F st) (s : Same H H1) : RS K C CB cs H1 a dx ag an ab g ts ks M F st where
  rd := h.rd.same s
  b := h.b
  nl := s _ _ h.nl
  nm := Nms.map (fun t xs e => sqt_same e s) h.nm
  ok := h.ok
  bl := s _ _ h.bl
  sk := Stk.keep (fun _ _ h => h) (fun _ _ h => h) (Nat.le_refl _) h.sk fun b o e m => s b o e
  wd := h.wd
  fz := Same.trans h.fz s
  sq := h.sq
  n1 := h.n1
  n2 := h.n2
  n3 := h.n3
  fm := h.fm
  nmd := h.nmd
  nlen := h.nlen
  flen := h.flen
  plen := h.plen
  g128 := h.g128
/-- parts have been made -/
theorem RS.grow (h : RS K C CB cs H a dx ag an ab g ts ks M F st) (hM : ∀ b i, M b = some i → M1 b = some i) (hw : Wd K cs M1 F1 (nmsOf st)) (sF : Same F F1) (sH : Same F1 H) (hf : ∀ x ∈ [a, an, ab] ++ foots ks, F1 x = none) : RS K C CB cs H a dx ag an ab g ts ks M1 F1 st where
  rd := h.rd
  b := h.b
  nl := h.nl
  nm := h.nm
  ok := h.ok
  bl := h.bl
  sk := Stk.keep hM (fun _ _ h => h) (Nat.le_refl _) h.sk fun b o e m => e
  wd := hw
  fz := sH
  sq := sql_same h.sq sF
  n1 := h.n1
  n2 := h.n2
  n3 := h.n3
  fm := hf
  nmd := h.nmd
  nlen := h.nlen
  flen := h.flen
  plen := h.plen
  g128 := h.g128
theorem sqt_keptL {K : PySem.W.Frag} {H H' : Hp} {t : Addr} {xs : List V} {S : List Addr} (h : SqT K H t xs) (hS : ∀ x ∈ S, isTup (H x) = false) (k : KeptL H H' S) : SqT K H' t xs := by
  rcases h with (h | ⟨o, h⟩) | h
  · exact .inl (.inl (k _ _ h fun m => by have := hS _ m; rw [h] at this; cases this))
  · exact .inl (.inr ⟨o, k _ _ h fun m => by have := hS _ m; rw [h] at this; cases this⟩)
  · exact .inr h
theorem BrOk.notup {nm : List Name} {p h : Nat} {k : Bk} {fr : Fr} (x : BrOk CB H M nm p h k fr) : ∀ y ∈ k.foot, isTup (H y) = false := fun y m => by
  rcases List.mem_cons.mp m with e | m
  · rw [e, x.at_]
    rfl
  rcases List.mem_cons.mp m with e | m
  · rw [e, x.arl]
    rfl
  · obtain ⟨r, hr, rfl⟩ := List.mem_map.mp m
    rw [x.rws r hr]
    rfl
theorem Stk.notup {nm : List Name} {p : Nat} : ∀ {ks : List Bk} {frs : List Fr}, Stk CB H M nm p ks frs → ∀ y ∈ foots ks, isTup (H y) = false
  | [], [], _, _, m => nomatch m
  | [], _ :: _, h, _, _ => h.elim
  | _ :: _, [], h, _, _ => h.elim
  | k :: ks, fr :: frs, ⟨h1, h2⟩, y, m => by
    rw [foots_cons] at m
    rcases List.mem_append.mp m with m | m
    · exact h1.notup y m
    · exact Stk.notup h2 y m
/-- what the reader may change -/
theorem RS.mut (h : RS K C CB cs H a dx ag an ab g ts ks M F st) : ∀ x ∈ [a, an, ab] ++ foots ks, H x ≠ none ∧ isTup (H x) = false := fun x m => by
  rcases List.mem_append.mp m with m | m
  · simp only [List.mem_cons, List.not_mem_nil, or_false] at m
    rcases m with e | e | e
    · rw [e, h.rd.1]; exact ⟨(fun h => nomatch h), rfl⟩
    · rw [e, h.nl]; exact ⟨(fun h => nomatch h), rfl⟩
    · rw [e, h.bl]; exact ⟨(fun h => nomatch h), rfl⟩
  · exact ⟨Stk.there h.sk x m, Stk.notup h.sk x m⟩
/-- the topmost bracket is changed, parts have been made -/
theorem RS.topG {k k1 : Bk} {fr fr' : Fr} {frs : List Fr} (h : RS K C CB cs H a dx ag an ab g ts (k :: ks) M F st) (hf : st.frs = fr :: frs) (hk : KeptL H H1 k.foot) (hb : k1.b = k.b)
    (ho : BrOk CB H1 M1 (nmsOf st) st.p frs.length k1 fr') (hnd : k1.foot.Nodup) (hin : ∀ x ∈ k1.foot, x ∈ k.foot ∨ H x = none)
    (hM : ∀ b i, M b = some i → M1 b = some i) (hw : Wd K cs M1 F1 (nmsOf st)) (sF : Same F F1) (sH : Same F1 H1) (hf1 : ∀ x ∈ [a, an, ab] ++ foots (k1 :: ks), F1 x = none) : RS K C CB cs H1 a dx ag an ab g ts (k1 :: ks) M1 F1 { st with frs := fr' :: frs } := by
  have sk := h.sk
  rw [hf] at sk
  obtain ⟨hbr, hs⟩ := sk
  obtain ⟨n31, n32, n33⟩ := h.n3
  have hfl := h.flen
  have hpl := h.plen
  rw [hf] at hfl hpl
  have hFk : ∀ x ∈ k.foot, F x = none := fun x m => h.fm x (List.mem_append_right _ (by rw [foots_cons]; exact List.mem_append_left _ m))
  have n2k : Sep [a, an, ab] k.foot := fun x m m2 => h.n2 x m (by rw [foots_cons]; exact List.mem_append_left _ m2)
  have n2s : Sep [a, an, ab] (foots ks) := fun x m m2 => h.n2 x m (by rw [foots_cons]; exact List.mem_append_right _ m2)
  have out : ∀ x, H x ≠ none → x ∉ k.foot → x ∉ k1.foot := fun x h1 h2 m => (hin x m).elim h2 h1
  have keep3 : ∀ x ∈ [a, an, ab], ∀ o, H x = some o → H1 x = some o := fun x m o e => hk x o e (n2k x m)
  exact {
    rd := ⟨keep3 a (by simp) _ h.rd.1, sql_same h.sq (Same.of_keptL' h.fz hFk hk), h.rd.2.2⟩
    b := h.b
    nl := keep3 an (by simp) _ h.nl
    nm := Nms.map (fun t xs e => sqt_keptL e hbr.notup hk) h.nm
    ok := h.ok
    bl := by
      show H1 ab = some (.lst (((k1.b :: ks.map Bk.b).reverse.map V.ref)))
      rw [hb]
      exact keep3 ab (by simp) _ h.bl
    sk := ⟨ho, Stk.keep hM (fun _ _ h => h) (Nat.le_refl _) hs fun b o e m => hk b o e fun m2 => n32 b m2 m⟩
    wd := hw
    fz := sH
    sq := sql_same h.sq sF
    n1 := h.n1
    n2 := fun x m m2 => by
      rw [foots_cons] at m2
      rcases List.mem_append.mp m2 with m2 | m2
      · refine out x ?_ (n2k x m) m2
        simp only [List.mem_cons, List.not_mem_nil, or_false] at m
        rcases m with e | e | e
        · rw [e, h.rd.1]
          exact fun h => nomatch h
        · rw [e, h.nl]
          exact fun h => nomatch h
        · rw [e, h.bl]
          exact fun h => nomatch h
      · exact n2s x m m2
    n3 := ⟨hnd, fun x m m2 => (hin x m).elim (fun m3 => n32 x m3 m2) (fun e => Stk.there hs x m2 e), n33⟩
    fm := hf1
    nmd := h.nmd
    nlen := h.nlen
    flen := hfl
    plen := hpl
    g128 := h.g128 }
/-- the topmost bracket is changed -/
theorem RS.top {k k1 : Bk} {fr fr' : Fr} {frs : List Fr} (h : RS K C CB cs H a dx ag an ab g ts (k :: ks) M F st) (hf : st.frs = fr :: frs) (hk : KeptL H H1 k.foot) (hb : k1.b = k.b)
    (ho : BrOk CB H1 M (nmsOf st) st.p frs.length k1 fr') (hnd : k1.foot.Nodup) (hin : ∀ x ∈ k1.foot, x ∈ k.foot ∨ H x = none) : RS K C CB cs H1 a dx ag an ab g ts (k1 :: ks) M F { st with frs := fr' :: frs } := by
  have hFk : ∀ x ∈ k.foot, F x = none := fun x m => h.fm x (List.mem_append_right _ (by rw [foots_cons]; exact List.mem_append_left _ m))
  refine h.topG hf hk hb ho hnd hin (fun _ _ h => h) h.wd (fun _ _ h => h) (Same.of_keptL' h.fz hFk hk) fun x m => ?_
  rcases List.mem_append.mp m with m | m
  · exact h.fm x (List.mem_append_left _ m)
  · rw [foots_cons] at m
    rcases List.mem_append.mp m with m | m
    · exact (hin x m).elim (hFk x) fun e => none_same h.fz e
    · exact h.fm x (List.mem_append_right _ (by rw [foots_cons]; exact List.mem_append_right _ m))
theorem RowsFit.unsnoc {D : Nat} : ∀ {rs : Rws} {pss : List (List PatWords.Pat)} {ps : List PatWords.Pat}, RowsFit M D rs (pss ++ [ps]) → ∃ rs' al bs, rs = rs' ++ [(al, bs)] ∧ RowsFit M D rs' pss ∧ AllFit M D bs ps
  | [], [], _, h => h.elim
  | [], _ :: _, _, h => h.elim
  | [(al, bs)], [], _, ⟨h1, _⟩ => ⟨[], al, bs, rfl, trivial, h1⟩
  | _ :: _ :: _, [], _, ⟨_, h2⟩ => h2.elim
  | r :: rs, q :: pss, p, ⟨h1, h2⟩ => by
    obtain ⟨rs', al, bs, e, h3, h4⟩ := RowsFit.unsnoc h2
    exact ⟨r :: rs', al, bs, by rw [e]; rfl, ⟨h1, h3⟩, h4⟩
theorem RowsFit.snoc {D : Nat} {al : Addr} {bs : List Addr} {ps : List PatWords.Pat} (h : AllFit M D bs ps) : ∀ {rs : Rws} {pss : List (List PatWords.Pat)}, RowsFit M D rs pss → RowsFit M D (rs ++ [(al, bs)]) (pss ++ [ps])
  | [], [], _ => ⟨h, trivial⟩
  | [], _ :: _, h => h.elim
  | _ :: _, [], h => h.elim
  | _ :: _, _ :: _, ⟨h1, h2⟩ => ⟨h1, RowsFit.snoc h h2⟩
/-- the row that is being read -/
theorem BrOk.cur {nm : List Name} {p h : Nat} {k : Bk} {fr : Fr} (x : BrOk CB H M nm p h k fr) : ∃ rs al bs rss, k.rows = rs ++ [(al, bs)] ∧ RowsFit M (2 * (p - h)) rs rss ∧ AllFit M (2 * (p - h)) bs fr.items ∧ fr.rows = rss.map Mach.seqs ∧ H k.ar = some (.lst ((rs.map (·.1)).map V.ref ++ [V.ref al])) ∧ H al = some (.lst (bs.map V.ref)) ∧ bs.length ≤ p := by
  obtain ⟨rss, h1, h2⟩ := x.fit
  obtain ⟨rs, al, bs, e, h3, h4⟩ := h1.unsnoc
  refine ⟨rs, al, bs, rss, e, h3, h4, h2, ?_, ?_, ?_⟩
  · have := x.arl
    rw [e, List.map_append] at this
    rw [List.map_map]
    exact this
  · exact x.rws (al, bs) (by rw [e]; simp)
  · exact x.ilen (al, bs) (by rw [e]; simp)
/-- the topmost bracket by its place in the list -/
theorem RS.lastB {k : Bk} (h : RS K C CB cs H a dx ag an ab g ts (k :: ks) M F st) : SqL K H ab (((ks.map Bk.b).reverse.map V.ref) ++ [V.ref k.b]) := by
  refine SqL.of ?_
  have e := h.bl
  rw [List.map_cons, List.reverse_cons, List.map_append] at e
  exact e
theorem sqt_upd {K : PySem.W.Frag} {H : Hp} {l t : Addr} {xs ys zs : List V} (h : SqT K H t xs) (e : H l = some (.lst ys)) : SqT K (upd H l (.lst zs)) t xs := by
  rcases h with (h | ⟨o, h⟩) | h
  · exact .inl (.inl ((upd_ne (ne_of h e (by intro z; cases z))).trans h))
  · exact .inl (.inr ⟨o, (upd_ne (ne_of h e (by intro z; cases z))).trans h⟩)
  · exact .inr h
theorem sql_upd {K : PySem.W.Frag} {H : Hp} {l t : Addr} {xs zs : List V} (h : SqL K H t xs) (n : t ≠ l) : SqL K (upd H l (.lst zs)) t xs := by
  rcases h with (h | ⟨o, h⟩) | h
  · exact .inl (.inl ((upd_ne n).trans h))
  · exact .inl (.inr ⟨o, (upd_ne n).trans h⟩)
  · exact .inr h
/-- the list of brackets is written anew -/
theorem RS.pile {ks' : List Bk} {frs' : List Fr} (h : RS K C CB cs H a dx ag an ab g ts ks M F st) (hs : Stk CB H M (nmsOf st) st.p ks' frs') (hl : frs'.length ≤ 41) (hl2 : frs'.length ≤ st.p + 1) (hn2 : Sep [a, an, ab] (foots ks')) (hn3 : Foots ks') (hf : ∀ x ∈ foots ks', F x = none) :
    RS K C CB cs (upd H ab (.lst ((ks'.map Bk.b).reverse.map V.ref))) a dx ag an ab g ts ks' M F { st with frs := frs' } where
  rd := ⟨(upd_ne h.n1.2.1).trans h.rd.1, sql_same h.sq (same_upd h.fz h.fb), h.rd.2.2⟩
  b := h.b
  nl := (upd_ne h.n1.2.2).trans h.nl
  nm := Nms.map (fun t xs e => sqt_upd e h.bl) h.nm
  ok := h.ok
  bl := upd_same
  sk := Stk.keep (fun _ _ h => h) (fun _ _ h => h) (Nat.le_refl _) hs fun b o e m => (upd_ne (fun x => hn2 ab (by simp) (by rw [← x]; exact m))).trans e
  wd := h.wd
  fz := same_upd h.fz h.fb
  sq := h.sq
  n1 := h.n1
  n2 := hn2
  n3 := hn3
  fm := fun x m => by
    rcases List.mem_append.mp m with m | m
    · exact h.fm x (List.mem_append_left _ m)
    · exact hf x m
  nmd := h.nmd
  nlen := h.nlen
  flen := hl
  plen := hl2
  g128 := h.g128
/-- how a step ends -/
def StepRet (K : PySem.W.Frag) (C CB CF : Addr) (cs : Cs) (a dx ag an ab : Addr) (g : List UInt8) (F : Hp) (Q : VK) (E : XK) (res : Except Fault Mach.St) : Prop := match res with
  | .error e => Out CF e E
  | .ok st' => ∀ H' ts' ks' M' F', RS K C CB cs H' a dx ag an ab g ts' ks' M' F' st' → Same F F' → Q .non H'
end
end Pat
end

section
namespace Pat
open PySem PySem.Spec PyProof.Rows L2
open PySem.FaultX (FaultTxt)
open PatUtf (Fault)
open PatWords (Pat repP timesP Name)
open Mach (Fr)
open Ways (WF FwdW FitsW FitAll oneWF seqsWF altsWF repWF capWF)
theorem timesP_le {p n q : Nat} {b r : List UInt8} (h : timesP p b = .ok (n, r, q)) : n ≤ 20 := by
  unfold timesP at h
  cases b with
  | nil => cases h
  | cons c b =>
    dsimp only at h
    split at h
    · cases h
    split at h
    · cases b with
      | nil => cases h
      | cons d s => cases h; omega
    · split at h
      · cases h
      split at h
      · cases h
      · rename_i hn
        cases h
        exact Nat.not_lt.mp hn
/-- a repetition of what: only the sizes are of it -/
theorem rep_gen {a : Pat} {p : Nat} {c : UInt8} {r : List UInt8} (hc : Mach.isRep c = true) :
    match repP .nothing p (c :: r) with
    | .error e => repP a p (c :: r) = .error e
    | .ok (x, s, q) => ∃ m n, x = .rep .nothing m n ∧ repP a p (c :: r) = .ok (.rep a m n, s, q) ∧ m ≤ 20 ∧ ∀ k, n = some k → m ≤ k ∧ k ≤ 20 := by
  by_cases h1 : c = 42
  · subst h1
    exact ⟨0, none, rfl, rfl, by decide, fun k e => nomatch e⟩
  by_cases h2 : c = 43
  · subst h2
    exact ⟨1, none, rfl, rfl, by decide, fun k e => nomatch e⟩
  by_cases h3 : c = 63
  · subst h3
    exact ⟨0, some 1, rfl, rfl, by decide, fun k e => by cases e; decide⟩
  have h4 : c = 123 := by
    simp only [Mach.isRep, Bool.or_eq_true, beq_iff_eq] at hc
    rcases hc with ((h | h) | h) | h
    · exact absurd h h1
    · exact absurd h h2
    · exact absurd h h3
    · exact h
  subst h4
  unfold repP
  simp only [h1, h2, h3, if_false, if_true]
  cases e1 : timesP (p + 1) r with
  | error e => rfl
  | ok y =>
    obtain ⟨m, s, q⟩ := y
    have hm := timesP_le e1
    simp only [bind, Except.bind]
    cases s with
    | nil => rfl
    | cons d u =>
      dsimp only
      by_cases c1 : d = 125
      · rw [if_pos c1, if_pos c1]
        exact ⟨m, some m, rfl, rfl, hm, fun k e => by cases e; exact ⟨Nat.le_refl _, hm⟩⟩
      · rw [if_neg c1, if_neg c1]
        by_cases c2 : d ≠ 44
        · rw [if_pos c2, if_pos c2]
        · rw [if_neg c2, if_neg c2]
          cases u with
          | nil => rfl
          | cons e v =>
            dsimp only
            by_cases c3 : e = 125
            · rw [if_pos c3, if_pos c3]
              exact ⟨m, none, rfl, rfl, hm, fun k e => nomatch e⟩
            · rw [if_neg c3, if_neg c3]
              cases e2 : timesP (q + 1) (e :: v) with
              | error e => rfl
              | ok y2 =>
                obtain ⟨n, x, k⟩ := y2
                have hn := timesP_le e2
                dsimp only
                by_cases c4 : n < m
                · rw [if_pos c4, if_pos c4]
                · rw [if_neg c4, if_neg c4]
                  cases x with
                  | nil => rfl
                  | cons y z =>
                    dsimp only
                    by_cases c5 : y = 125
                    · rw [if_pos c5, if_pos c5]
                      exact ⟨m, some n, rfl, rfl, hm, fun k e => by cases e; exact ⟨Nat.not_lt.mp c4, hn⟩⟩
                    · rw [if_neg c5, if_neg c5]
theorem rep_size (a : Pat) (m : Nat) (n : Option Nat) : (Pat.rep a m n).size = timesN m n * a.size := by
  cases n <;> rfl
theorem repP_drop {g : List UInt8} {p q : Nat} {a x : Pat} {s : List UInt8} (h : repP a p (g.drop p) = .ok (x, s, q)) (hp : p ≤ g.length) : s = g.drop q ∧ q ≤ g.length := by
  unfold repP at h
  cases hc : g[p]? with
  | none => rw [drop_none hc] at h; cases h; exact ⟨(drop_none hc).symm, hp⟩
  | some c =>
    have hlt := lt_of_some hc
    rw [drop_cons hc] at h
    dsimp only at h
    split at h
    · cases h; exact ⟨rfl, by omega⟩
    split at h
    · cases h; exact ⟨rfl, by omega⟩
    split at h
    · cases h; exact ⟨rfl, by omega⟩
    split at h
    · cases e1 : timesP (p + 1) (g.drop (p + 1)) with
      | error e => rw [e1] at h; cases h
      | ok y =>
        obtain ⟨m, s1, q1⟩ := y
        obtain ⟨hs, hpq, hql⟩ := timesP_drop e1
        subst hs
        rw [e1] at h
        simp only [bind, Except.bind] at h
        have hd : g[q1]? = some g[q1] := List.getElem?_eq_getElem hql
        rw [drop_cons hd] at h
        dsimp only at h
        split at h
        · cases h; exact ⟨rfl, by omega⟩
        split at h
        · cases h
        cases he : g[q1 + 1]? with
        | none => rw [drop_none he] at h; cases h
        | some e =>
          have hle := lt_of_some he
          rw [drop_cons he] at h
          dsimp only at h
          split at h
          · cases h; exact ⟨rfl, by omega⟩
          rw [← drop_cons he] at h
          cases e2 : timesP (q1 + 1) (g.drop (q1 + 1)) with
          | error e => rw [e2] at h; cases h
          | ok y2 =>
            obtain ⟨n, x2, k⟩ := y2
            obtain ⟨hx, hqk, hkl⟩ := timesP_drop e2
            subst hx
            rw [e2] at h
            dsimp only at h
            split at h
            · cases h
            have hy : g[k]? = some g[k] := List.getElem?_eq_getElem hkl
            rw [drop_cons hy] at h
            dsimp only at h
            split at h
            · cases h; exact ⟨rfl, by omega⟩
            · cases h
    · cases h
      exact ⟨(drop_cons hc).symm, hp⟩
def repStep (g : List UInt8) (st : Mach.St) (fr : Fr) (frs : List Fr) : Except Fault Mach.St := if fr.last = true then (match repP (fr.items.getLast?.getD .nothing) st.p (g.drop st.p) with
    | .error e => .error e
    | .ok (x, s, q) => .ok ⟨q, s, st.ns, fr.swap x :: frs⟩) else .error ⟨2, st.p⟩
theorem repP_up {g : List UInt8} {p q : Nat} {c : UInt8} {x y : Pat} {s : List UInt8} (hc : g[p]? = some c) (hr : Mach.isRep c = true) (h : repP y p (g.drop p) = .ok (x, s, q)) : p < q := by
  have hlt := lt_of_some hc
  unfold repP at h
  rw [drop_cons hc] at h
  dsimp only at h
  split at h
  · cases h; omega
  split at h
  · cases h; omega
  split at h
  · cases h; omega
  split at h
  · cases e1 : timesP (p + 1) (g.drop (p + 1)) with
    | error e => rw [e1] at h; cases h
    | ok y =>
      obtain ⟨m, s1, q1⟩ := y
      obtain ⟨hs, hpq, hql⟩ := timesP_drop e1
      subst hs
      rw [e1] at h
      simp only [bind, Except.bind] at h
      have hd : g[q1]? = some g[q1] := List.getElem?_eq_getElem hql
      rw [drop_cons hd] at h
      dsimp only at h
      split at h
      · cases h; omega
      split at h
      · cases h
      cases he : g[q1 + 1]? with
      | none => rw [drop_none he] at h; cases h
      | some e =>
        have hle := lt_of_some he
        rw [drop_cons he] at h
        dsimp only at h
        split at h
        · cases h; omega
        rw [← drop_cons he] at h
        cases e2 : timesP (q1 + 1) (g.drop (q1 + 1)) with
        | error e => rw [e2] at h; cases h
        | ok y2 =>
          obtain ⟨n, x2, k⟩ := y2
          obtain ⟨hx, hqk, hkl⟩ := timesP_drop e2
          subst hx
          rw [e2] at h
          dsimp only at h
          split at h
          · cases h
          have hy : g[k]? = some g[k] := List.getElem?_eq_getElem hkl
          rw [drop_cons hy] at h
          dsimp only at h
          split at h
          · cases h; omega
          · cases h
  · rename_i n1 n2 n3 n4
    simp only [Mach.isRep, Bool.or_eq_true, beq_iff_eq] at hr
    rcases hr with ((h | h) | h) | h
    · exact absurd h n1
    · exact absurd h n2
    · exact absurd h n3
    · exact absurd h n4
section
variable {P : Program} {w : World} {K : PySem.W.Frag} {mg : Str → Option Value} {base : Heap} {C CB CF fI : Addr} {cs : Cs} {H : Hp} {a dx ag an ab : Addr} {g : List UInt8} {ts : List Addr} {ks : List Bk} {M : PM} {F0 : Hp} {st : Mach.St} {Q : VK} {E : XK}
@[irreducible] def spRepS (K : PySem.W.Frag) (C CB CF : Addr) (cs : Cs) : Sp := fun vs H Q E => ∃ (a dx ag an ab : Addr) (g : List UInt8) (ts : List Addr) (ks : List Bk) (M : PM) (F : Hp) (st : Mach.St) (fr : Fr) (frs : List Fr) (c : UInt8), vs = [.ref a] ∧ RS K C CB cs H a dx ag an ab g ts ks M F st ∧ st.frs = fr :: frs ∧
  g[st.p]? = some c ∧ Mach.isRep c = true ∧ StepRet K C CB CF cs a dx ag an ab g F Q E (repStep g st fr frs)
theorem repS_use {fr : Fr} {frs : List Fr} {c : UInt8} (h : RS K C CB cs H a dx ag an ab g ts ks M F0 st) (hf : st.frs = fr :: frs) (hc : g[st.p]? = some c) (hr : Mach.isRep c = true) (r : StepRet K C CB CF cs a dx ag an ab g F0 Q E (repStep g st fr frs)) : spRepS K C CB CF cs [.ref a] H Q E := by
  unfold spRepS
  exact ⟨a, dx, ag, an, ab, g, ts, ks, M, F0, st, fr, frs, c, rfl, h, hf, hc, hr, r⟩
theorem brep_use {b dxb c ar al : Addr} {as : List Addr} {its : List V} {z : Str} {num : V} {n : Int} {s m : Nat} {mo : Option Nat} (hm : m ≤ 20) (hmo : ∀ k, mo = some k → k ≤ 20) (hb : BAt CB H b dxb z num ar n (some (s : Nat))) (har : H ar = some (.lst (as.map V.ref ++ [V.ref al]))) (hal : H al = some (.lst (its ++ [V.ref c]))) (hlen : its.length ≤ 1000) (hra : ar ≠ al)
    (r : ∀ H' b' dx' rg ra, H b' = none → H' b' = some (.ins cs.p dx' (nF rg ra (.rep c m mo))) → BAt CB H' b dxb z num ar (n + (((timesN m mo : Nat) : Int) - 1) * (s : Nat)) none → H' al = some (.lst (its ++ [V.ref b'])) → KeptL H H' [b, al] → Q .non H') : spBRep CB cs [.ref b, .int (m : Nat), optN mo] H Q E := by
  unfold spBRep
  exact ⟨b, dxb, c, ar, al, as, its, z, num, n, s, m, mo, rfl, hm, hmo, hb, har, hal, hlen, hra, r⟩
/-- a changed bracket's lists -/
theorem BrOk.lists {nm : List Name} {p h : Nat} {k : Bk} {fr : Fr} {H1 : Hp} {rs : Rws} {al : Addr} {bs bs' : List Addr} (x : BrOk CB H M nm p h k fr) (e : k.rows = rs ++ [(al, bs)]) (hn : k.foot.Nodup) (hk : KeptL H H1 [k.b, al]) (hal : H1 al = some (.lst (bs'.map V.ref))) :
    H1 k.ar = some (.lst ((rs ++ [(al, bs')]).map fun r => V.ref r.1)) ∧ RowsAt H1 (rs ++ [(al, bs')]) := by
  have hf : k.foot = k.b :: k.ar :: (rs.map (·.1) ++ [al]) := by
    unfold Bk.foot
    rw [e, List.map_append]
    rfl
  rw [hf] at hn
  obtain ⟨n1, n2⟩ := List.nodup_cons.mp hn
  obtain ⟨n3, n4⟩ := List.nodup_cons.mp n2
  have hab : k.ar ≠ k.b := fun e => n1 (by rw [e]; simp)
  have haa : k.ar ≠ al := fun e => n3 (by rw [e]; simp)
  constructor
  · have h1 := hk _ _ x.arl (by simp [hab, haa])
    rw [h1, e, List.map_append, List.map_append]
    rfl
  · intro r m
    rcases List.mem_append.mp m with m | m
    · have h1 := x.rws r (by rw [e]; exact List.mem_append_left _ m)
      refine hk _ _ h1 ?_
      have hm : r.1 ∈ rs.map (·.1) := List.mem_map.mpr ⟨r, m, rfl⟩
      have hb : r.1 ≠ k.b := fun e => n1 (by rw [← e]; simp [hm])
      have hl : r.1 ≠ al := fun e2 => by
        have := (List.nodup_append.mp n4).2.2
        exact this r.1 hm al (by simp) e2
      simp [hb, hl]
    · rw [List.mem_singleton.mp m]
      exact hal
theorem scRepS : FnScope ["self", "times"] ["self"] (defScope (sR 14)) := ⟨rfl, rfl, rfl, by decide +kernel, rfl, by decide +kernel, by decide +kernel⟩
theorem ok_repS {f : Addr} {fd : FuncData} (F : Fun K "take_repetition" "Reader.take_repetition" (sR 14) f fd) (T : Txt K mg C CF fI) (TB : TxB K CB)
    (M2 : MOk P w K mg base (L2N.CX P w) C 6 "take_times" ["self"] (spTimes K C CF)) (M4 : MOk P w K mg base CX0 CB 4 "repeat_atom" ["self", "least", "most"] (spBRep CB cs)) :
    FnOk P w K mg base (L2N.CX P w) 7 f fd ["self"] (spRepS K C CB CF cs) := by
  obtain ⟨f2, fd2, m2, b2, G2⟩ := M2
  obtain ⟨f4, fd4, m4, b4, G4⟩ := M4
  refine F.okN scRepS (fun vs H Q E h => ?_) (fun cdv A outer s H vs Q E hr h => ⟨_, pss_cons (ps_if (pt_cmpR op_isN (pe_fld (pe_ix ix_list (pe_fld (pv 0) rfl) (pe_un un_neg pe_int) (fun _ _ => rfl)) rfl) pe_non (nomark _))
        (pss_one (ps_raiseFault rfl T.ft hr (L2N.takes_of rfl rfl rfl rfl) (by exact (pa_cons (pe_gi T.k2) (pa_cons (pe_fld (pv 0) rfl) pa_nil))))) pss_nil)
      (pss_cons (ps_set (i := 1) scRepS.nd rfl (Or.inl rfl) (pe_meth0 (pv 0) T.cl m2 G2 hr b2 .nil (L2N.passes_call (L2N.takes_of rfl rfl rfl rfl) (fun _ _ _ _ h => h))))
      (pss_one (ps_expr (pe_meth (pe_ix ix_list (pe_fld (pv 0) rfl) (pe_un un_neg pe_int) (fun _ _ => rfl)) TB.cl m4 G4 (hr.mono (by decide)) b4 .nil pass0 (by exact (pa_cons (pe_ix ix_tup (pv 1) pe_int (fun _ _ => rfl)) (pa_cons (pe_ix ix_tup (pv 1) pe_int (fun _ _ => rfl)) pa_nil))))))), ?_⟩)
  · unfold spRepS at h
    obtain ⟨_, _, _, _, _, _, _, _, _, _, _, _, _, _, rfl, _⟩ := h
    rfl
  unfold spRepS at h
  obtain ⟨a, dx, ag, an, ab, g, ts, ks, M, F0, st, fr, frs, c, rfl, h, hf, hc, hrep, hQ⟩ := h
  have hlt := lt_of_some hc
  have sk := h.sk
  rw [hf] at sk
  cases ks with
  | nil => exact sk.elim
  | cons k ks =>
    obtain ⟨hbr, hs⟩ := sk
    refine ⟨_, rfl, a, C, dx, _, _, rfl, h.rd.1, T.cl, T.nB, rF_brackets, _, rfl, ab, _, _, _, rfl, rfl, h.lastB, atI_last _ _, k.b, CB, k.dx, _, _, rfl, hbr.at_, TB.cl, TB.nL, bF_last, rfl, _, rfl, ?_⟩
    unfold repStep at hQ
    by_cases hl : fr.last = true
    · rw [if_pos hl] at hQ
      have efl : flast fr = some (((fr.items.getLast?.getD .nothing).size : Nat) : Int) := if_pos hl
      rw [efl]
      refine if_false_of rfl ?_
      -- the last item
      obtain ⟨init, x0, hit⟩ : ∃ init x0, fr.items = init ++ [x0] := ⟨fr.items.dropLast, _, (List.dropLast_concat_getLast (hbr.last hl)).symm⟩
      have hx0 : fr.items.getLast?.getD .nothing = x0 := by rw [hit]; simp
      rw [hx0] at hQ efl
      have hrg := rep_gen (a := x0) (p := st.p) (r := g.drop (st.p + 1)) hrep
      rw [← drop_cons hc] at hrg
      refine ⟨_, rfl, a, dx, _, rfl, h.rd.1, rF_no (by decide +kernel), ?_⟩
      refine times_use h.rd hc hrep ?_
      unfold repE
      cases e : repP .nothing st.p (g.drop st.p) with
      | error x =>
        rw [e] at hrg
        dsimp only at hrg
        rw [hrg] at hQ
        exact hQ
      | ok y =>
        obtain ⟨x, s, q⟩ := y
        rw [e] at hrg
        obtain ⟨m, n, rfl, e2, h20, hn20⟩ := hrg
        obtain ⟨hs2, hql⟩ := repP_drop e (Nat.le_of_lt hlt)
        have hpq := repP_up hc hrep e
        rw [hs2] at e2
        rw [e2] at hQ
        intro H3 t r3 k3 ht
        have h3 := h.go r3 k3 hql (Nat.le_of_lt hpq)
        have sk3 := h3.sk
        have hf3 : ({ st with p := q, b := g.drop q } : Mach.St).frs = fr :: frs := hf
        rw [hf3] at sk3
        obtain ⟨hbr3, hs3⟩ := sk3
        obtain ⟨rs, al, bs, rss, er, hfr, hfi, hrows, har, hal, hbl⟩ := hbr3.cur
        -- by what was read before
        obtain ⟨rs', al', bs', rss', er', hfr', hfi', hrows', _⟩ := hbr.cur
        have err : rs' = rs ∧ al' = al ∧ bs' = bs := by
          rw [er] at er'
          have := List.append_inj' er' rfl
          have h2 := List.cons.inj this.2
          injection h2.1 with h3 h4
          exact ⟨this.1.symm, h3.symm, h4.symm⟩
        obtain ⟨rfl, rfl, rfl⟩ := err
        rw [hit] at hfi'
        obtain ⟨bs0, c0, ebs, hfi0, hfc⟩ := hfi'.unsnoc
        have hnd := h3.n3.1
        have hra : k.ar ≠ al' := fun e => by
          have hf : k.foot = k.b :: k.ar :: (rs'.map (·.1) ++ [al']) := by
            unfold Bk.foot
            rw [er, List.map_append]
            rfl
          rw [hf] at hnd
          have := (List.nodup_cons.mp (List.nodup_cons.mp hnd).2).1
          exact this (by rw [e]; simp)
        rw [ebs, List.map_append] at hal
        have hb3 := hbr3.at_
        rw [efl] at hb3
        refine ⟨_, rfl, a, C, dx, _, _, rfl, h3.rd.1, T.cl, T.nB, rF_brackets, _, rfl, ab, _, _, _, rfl, rfl, h3.lastB, atI_last _ _, k.b, k.dx, _, rfl, hb3, bF_no (by decide +kernel), ?_⟩
        refine ⟨_, rfl, t, _, _, _, rfl, rfl, ht, atI_nat (j := 0) rfl, ?_⟩
        refine ⟨_, rfl, t, _, _, _, rfl, rfl, ht, atI_nat (j := 1) rfl, ?_⟩
        have hg1000 := h.g128
        have hbl : bs'.length ≤ q := hbl
        refine brep_use h20 (fun k e => (hn20 k e).2) hb3 har hal (by rw [List.length_map]; rw [ebs, List.length_append] at hbl; omega) hra ?_
        intro H4 b' dx' rg ra hb'n hb' hb4 hal4 k4
        have hbm : k.b ∈ k.foot := List.mem_cons_self ..
        have hlm : al' ∈ k.foot := by
          unfold Bk.foot
          rw [er]
          simp
        have k4f : KeptL H3 H4 k.foot := fun y o e n => k4 y o e fun m => n (by
          rcases List.mem_cons.mp m with m | m
          · rw [m]; exact hbm
          · rw [List.mem_singleton.mp m]; exact hlm)
        obtain ⟨ic, hi1, hi2, hi3⟩ := hfc
        have hh : frs.length ≤ st.p := by have := h.plen; rw [hf, List.length_cons] at this; omega
        have sF4 : Same F0 H4 := Same.of_keptL' h3.fz (fun y m => h3.fm y (List.mem_append_right _ (by rw [foots_cons]; exact List.mem_append_left _ m))) k4f
        have hFb' : F0 b' = none := none_same h3.fz hb'n
        -- the new part
        have made : ∃ (M1 : PM), (∀ b i, M b = some i → M1 b = some i) ∧ Wd K cs M1 (frz F0 H4 [b']) (nmsOf st) ∧ Fits M1 b' (.rep x0 m n) (2 * (st.p - frs.length) + 1) := by
          have hst : Stat (nmsOf st) M ⟨dx', .rep c0 m n, ic.d + 1, repWF ic.wf m n⟩ := ⟨h20, hn20, ic, hi1, Nat.lt_succ_self _, rfl⟩
          refine ⟨_, h.wd.le hFb', h.wd.grow sF4 hFb' (S := [b']) (dx := dx') (rg := rg) (ra := ra) (kd := .rep c0 m n) (d := ic.d + 1) (wf := repWF ic.wf m n) hb' (by simp) trivial hst (Ways.fwd_rep (h.wd.fwd _ _ hi1)), _, addM_same, Nat.succ_le_succ hi2, ?_⟩
          exact Ways.fits_rep hi3
        obtain ⟨M1, hM1, hW1, hfit1⟩ := made
        have hal4' : H4 al' = some (.lst ((bs0 ++ [b']).map V.ref)) := by rw [hal4, List.map_append]; rfl
        obtain ⟨hl1, hl2⟩ := hbr3.lists er hnd k4 hal4'
        have esz : ((fsize fr : Nat) : Int) + (((timesN m n : Nat) : Int) - 1) * ((x0.size : Nat) : Int) = ((fsize (fr.swap (.rep x0 m n)) : Nat) : Int) := by
          unfold fsize Mach.Fr.swap
          simp only [hit, List.dropLast_concat, List.map_append, List.sum_append, List.map_singleton, List.sum_singleton, rep_size]
          rw [Int.sub_mul, Int.one_mul]
          push_cast
          omega
        rw [esz] at hb4
        have esw : (fr.swap (.rep x0 m n)).items = init ++ [.rep x0 m n] := by
          show fr.items.dropLast ++ _ = _
          rw [hit, List.dropLast_concat]
        have hlen0 : bs0.length + 1 ≤ q := by rw [ebs, List.length_append] at hbl; exact hbl
        have hD : 2 * (st.p - frs.length) + 1 ≤ 2 * (q - frs.length) := by omega
        have hD0 : 2 * (st.p - frs.length) ≤ 2 * (q - frs.length) := by omega
        have hbrN : BrOk CB H4 M1 (nmsOf st) q frs.length { k with rows := rs' ++ [(al', bs0 ++ [b'])] } (fr.swap (.rep x0 m n)) := {
          at_ := hb4
          arl := hl1
          rws := hl2
          fit := ⟨rss', by
            rw [esw]
            exact RowsFit.snoc (AllFit.snoc (hfit1.mono (fun _ _ h => h) hD) (hfi0.mono hM1 hD0)) (hfr'.mono hM1 hD0), hrows'⟩
          num := hbr3.num
          last := fun e => nomatch e
          clo := hbr3.clo
          out := hbr3.out
          rlen := by
            have := hbr3.rlen
            rw [er] at this
            show (rs' ++ [(al', bs0 ++ [b'])]).length ≤ q + 1
            rw [List.length_append] at this ⊢
            exact this
          ilen := fun r m => by
            rcases List.mem_append.mp m with m | m
            · exact hbr3.ilen r (by rw [er]; exact List.mem_append_left _ m)
            · rw [List.mem_singleton.mp m]
              show (bs0 ++ [b']).length ≤ q
              rw [List.length_append]
              exact hlen0 }
        have hfoot : ({ k with rows := rs' ++ [(al', bs0 ++ [b'])] } : Bk).foot = k.foot := by
          unfold Bk.foot
          rw [er]
          simp
        refine hQ H4 ts _ M1 (frz F0 H4 [b']) (RS.topG h3 hf3 (k1 := { k with rows := rs' ++ [(al', bs0 ++ [b'])] }) k4f rfl hbrN (by rw [hfoot]; exact hnd) (fun x m => .inl (by rw [hfoot] at m; exact m)) hM1 hW1 same_frz (frz_same sF4) ?_) same_frz
        intro x m
        have m' : x ∈ [a, an, ab] ++ foots (k :: ks) := by
          rw [foots_cons, hfoot] at m
          exact m
        obtain ⟨hxH, hxt⟩ := h3.mut x m'
        refine frz_out (h3.fm x m') (fun m2 => hxH (by rw [List.mem_singleton.mp m2]; exact hb'n)) ?_
        by_cases mk : x ∈ k.foot
        · exact hbrN.notup x (by rw [hfoot]; exact mk)
        · cases e : H3 x with
          | none => exact absurd e hxH
          | some o =>
            rw [k4f _ _ e mk, ← e]
            exact hxt
    · rw [if_neg hl] at hQ
      have efl : flast fr = none := if_neg hl
      rw [efl]
      have hQ' : Out CF ⟨2, st.p⟩ E := hQ
      exact if_true_of rfl ⟨_, rfl, a, C, dx, _, _, rfl, h.rd.1, T.cl, T.nP, rF_place, _, _, rfl, fun d hd => hQ' d _ upd_same⟩
end
end Pat
end

section
namespace Pat
open PySem PySem.Spec PyProof.Rows L2
open PySem.FaultX (FaultTxt)
open PatUtf (Fault)
open PatWords (Pat repP timesP Name)
open Mach (Fr)
open Ways (WF FwdW FitsW FitAll oneWF seqsWF altsWF repWF capWF)
def closeStep (st : Mach.St) (g : List UInt8) (fr : Fr) (frs : List Fr) (c : UInt8) : Except Fault Mach.St := if fr.close = [c] then (match frs with
    | [] => .error ⟨2, st.p⟩
    | gg :: gs => .ok ⟨st.p + 1, g.drop (st.p + 1), st.ns, gg.push fr.atom :: gs⟩) else .error ⟨2, st.p⟩
theorem cds_close (fr : Fr) : cds (fclose fr) = fr.close.map (·.toNat) := by
  unfold cds fclose
  rfl
theorem close_has {fr : Fr} {c : UInt8} (h : fr.close.length ≤ 1) : (cds (fclose fr)).contains c.toNat = decide (fr.close = [c]) := by
  rw [cds_close]
  cases e : fr.close with
  | nil => rfl
  | cons d l =>
    cases l with
    | nil =>
      by_cases hd : d = c
      · subst hd
        simp
      · have h2 : ¬ d.toNat = c.toNat := fun x => hd (UInt8.toNat_inj.mp x)
        have h3 : ¬ c.toNat = d.toNat := fun x => h2 x.symm
        simp [hd, h3]
    | cons x l =>
      rw [e] at h
      simp at h
theorem atom_of (fr : Fr) (rss : List (List Pat)) (h : fr.rows = rss.map Mach.seqs) : fr.atom = atomOf (Mach.alts ((rss ++ [fr.items]).map Mach.seqs)) fr.name := by
  unfold Mach.Fr.atom Mach.Fr.pat atomOf
  rw [h, List.map_append]
  rfl
section
variable {P : Program} {w : World} {K : PySem.W.Frag} {mg : Str → Option Value} {base : Heap} {C CB CF fI : Addr} {cs : Cs} {H H1 : Hp} {a dx ag an ab : Addr} {g : List UInt8} {ts : List Addr} {ks : List Bk} {M : PM} {F0 : Hp} {st : Mach.St} {Q : VK} {E : XK}
/-- a part is put behind the others of its row -/
theorem RS.push {k : Bk} {fr : Fr} {frs : List Fr} (h : RS K C CB cs H a dx ag an ab g ts (k :: ks) M F0 st) (hf : st.frs = fr :: frs) {rs : Rws} {al x : Addr} {bs : List Addr} {pt : Pat} (er : k.rows = rs ++ [(al, bs)]) (hx : Fits M x pt (2 * (st.p - frs.length)))
    (hb : BAt CB H1 k.b k.dx (fclose fr) k.num k.ar (((fsize fr : Nat) : Int) + (pt.size : Nat)) (some ((pt.size : Nat) : Int))) (hal : H1 al = some (.lst (bs.map V.ref ++ [V.ref x]))) (hk : KeptL H H1 [k.b, al]) (hlen : bs.length + 1 ≤ st.p) :
    RS K C CB cs H1 a dx ag an ab g ts ({ k with rows := rs ++ [(al, bs ++ [x])] } :: ks) M F0 { st with frs := fr.push pt :: frs } := by
  have sk := h.sk
  rw [hf] at sk
  obtain ⟨hbr, hs⟩ := sk
  have hnd := h.n3.1
  have hal' : H1 al = some (.lst ((bs ++ [x]).map V.ref)) := by rw [hal, List.map_append]; rfl
  obtain ⟨hl1, hl2⟩ := hbr.lists er hnd hk hal'
  obtain ⟨rs', al', bs', rss', er', hfr', hfi', hrows', _⟩ := hbr.cur
  have err : rs' = rs ∧ al' = al ∧ bs' = bs := by
    rw [er] at er'
    have := List.append_inj' er' rfl
    have h2 := List.cons.inj this.2
    injection h2.1 with h3 h4
    exact ⟨this.1.symm, h3.symm, h4.symm⟩
  obtain ⟨rfl, rfl, rfl⟩ := err
  have hfoot : ({ k with rows := rs' ++ [(al', bs' ++ [x])] } : Bk).foot = k.foot := by
    unfold Bk.foot
    rw [er]
    simp
  have hbm : k.b ∈ k.foot := List.mem_cons_self ..
  have hlm : al' ∈ k.foot := by
    unfold Bk.foot
    rw [er]
    simp
  have kf : KeptL H H1 k.foot := fun y o e n => hk y o e fun m => n (by
    rcases List.mem_cons.mp m with m | m
    · rw [m]; exact hbm
    · rw [List.mem_singleton.mp m]; exact hlm)
  refine RS.top h hf (k1 := { k with rows := rs' ++ [(al', bs' ++ [x])] }) kf rfl ?_ (by rw [hfoot]; exact hnd) (fun y m => .inl (by rw [hfoot] at m; exact m))
  exact {
    at_ := by
      rw [push_size, push_last]
      push_cast
      exact hb
    arl := hl1
    rws := hl2
    fit := ⟨rss', RowsFit.snoc (AllFit.snoc hx hfi') hfr', hrows'⟩
    num := hbr.num
    last := fun _ => by simp [Mach.Fr.push]
    clo := hbr.clo
    out := hbr.out
    rlen := by
      have := hbr.rlen
      rw [er] at this
      show (rs' ++ [(al', bs' ++ [x])]).length ≤ st.p + 1
      rw [List.length_append] at this ⊢
      exact this
    ilen := fun r m => by
      rcases List.mem_append.mp m with m | m
      · exact hbr.ilen r (by rw [er]; exact List.mem_append_left _ m)
      · rw [List.mem_singleton.mp m]
        show (bs' ++ [x]).length ≤ st.p
        rw [List.length_append]
        exact hlen }
@[irreducible] def spClose (K : PySem.W.Frag) (C CB CF : Addr) (cs : Cs) : Sp := fun vs H Q E => ∃ (a dx ag an ab : Addr) (g : List UInt8) (ts : List Addr) (ks : List Bk) (M : PM) (F : Hp) (st : Mach.St) (fr : Fr) (frs : List Fr) (c : UInt8), vs = [.ref a] ∧ RS K C CB cs H a dx ag an ab g ts ks M F st ∧ st.frs = fr :: frs ∧
  g[st.p]? = some c ∧ StepRet K C CB CF cs a dx ag an ab g F Q E (closeStep st g fr frs c)
theorem close_use {fr : Fr} {frs : List Fr} {c : UInt8} (h : RS K C CB cs H a dx ag an ab g ts ks M F0 st) (hf : st.frs = fr :: frs) (hc : g[st.p]? = some c) (r : StepRet K C CB CF cs a dx ag an ab g F0 Q E (closeStep st g fr frs c)) : spClose K C CB CF cs [.ref a] H Q E := by
  unfold spClose
  exact ⟨a, dx, ag, an, ab, g, ts, ks, M, F0, st, fr, frs, c, rfl, h, hf, hc, r⟩
theorem badd_use {b dxb x ar al : Addr} {as : List Addr} {its : List V} {z : Str} {num : V} {n m : Int} {l : Option Int} (hb : BAt CB H b dxb z num ar n l) (har : H ar = some (.lst (as.map V.ref ++ [V.ref al]))) (hal : H al = some (.lst its)) (hlen : its.length ≤ 1000)
    (r : ∀ H', BAt CB H' b dxb z num ar (n + m) (some m) → H' al = some (.lst (its ++ [V.ref x])) → KeptL H H' [b, al] → Q .non H') : spBAdd CB [.ref b, .ref x, .int m] H Q E := by
  unfold spBAdd
  exact ⟨b, dxb, x, ar, al, as, its, z, num, n, m, l, rfl, hb, har, hal, hlen, r⟩
theorem bend_use {b dxb ar : Addr} {xs : List V} {z : Str} {num : V} {n : Int} {l : Option Int} (hb : BAt CB H b dxb z num ar n l) (har : H ar = some (.lst xs)) (hlen : xs.length ≤ 1000)
    (r : ∀ H' al, BAt CB H' b dxb z num ar n none → H al = none → H' al = some (.lst []) → H' ar = some (.lst (xs ++ [V.ref al])) → KeptL H H' [b, ar] → Q .non H') : spBEnd CB [.ref b] H Q E := by
  unfold spBEnd
  exact ⟨b, dxb, ar, xs, z, num, n, l, rfl, hb, har, hlen, r⟩
theorem made_use {k : Bk} {fr : Fr} {nm : List Name} {p h D : Nat} {rss : List (List Pat)} (hbr : BrOk CB H M nm p h k fr) (hne : k.rows ≠ []) (hp : p + 1 ≤ 1000) (hfit : RowsFit M D k.rows (rss ++ [fr.items])) (hW : Wd K cs M F0 nm) (hs : Same F0 H) (hrows : fr.rows = rss.map Mach.seqs)
    (r : Makes K cs nm M F0 H (k.rows.map (·.1)) fr.atom (D + 3) Q) : spMade K CB cs [.ref k.b] H Q E := by
  unfold spMade
  refine ⟨k.b, k.dx, k.ar, _, k.num, _, _, k.rows, rss ++ [fr.items], M, F0, nm, fr.name, D, rfl, hbr.at_, hbr.arl, hbr.rws, hfit, hne, Nat.le_trans hbr.rlen hp, fun r m => Nat.le_trans (hbr.ilen r m) (by omega), hW, hs, hbr.num, ?_⟩
  rw [← atom_of fr rss hrows]
  exact r
/-- what made_part has frozen leaves what may change -/
theorem RS.made {F1 : Hp} {M1 : PM} {rows : List Addr} (h : RS K C CB cs H a dx ag an ab g ts ks M F0 st) (s : Same H H1) (sF : Same F0 F1) (sH : Same F1 H1) (hM : ∀ b i, M b = some i → M1 b = some i) (hw : Wd K cs M1 F1 (nmsOf st)) (hg : Grown H rows F0 F1) (hr : ∀ x ∈ [a, an, ab] ++ foots ks, x ∉ rows) :
    RS K C CB cs H1 a dx ag an ab g ts ks M1 F1 st := by
  refine (h.same s).grow hM hw sF sH fun x m => ?_
  cases e : F1 x with
  | none => rfl
  | some o =>
    obtain ⟨h1, h2⟩ := h.mut x m
    rcases hg x (by rw [e]; exact fun h => nomatch h) with y | y | y | y
    · exact absurd (h.fm x m) y
    · exact absurd y h1
    · exact absurd y (hr x m)
    · rw [h2] at y; cases y
theorem scClose : FnScope ["self", "closed"] ["self"] (defScope (sR 18)) := ⟨rfl, rfl, rfl, by decide +kernel, rfl, by decide +kernel, by decide +kernel⟩
theorem ok_close {f : Addr} {fd : FuncData} (F : Fun K "take_closing" "Reader.take_closing" (sR 18) f fd) (T : Txt K mg C CF fI) (TB : TxB K CB)
    (M1 : MOk P w K mg base (L2N.CX P w) C 3 "take" ["self", "signs"] (spTake K C CF)) (M2 : MOk P w K mg base CX0 CB 1 "add_atom" ["self", "part", "atoms"] (spBAdd CB)) (M3 : MOk P w K mg base CX0 CB 4 "made_part" ["self"] (spMade K CB cs)) :
    FnOk P w K mg base (L2N.CX P w) 5 f fd ["self"] (spClose K C CB CF cs) := by
  obtain ⟨f1, fd1, m1, b1, G1⟩ := M1
  obtain ⟨f2, fd2, m2, b2, G2⟩ := M2
  obtain ⟨f3, fd3, m3, b3, G3⟩ := M3
  refine F.okN scClose (fun vs H Q E h => ?_) (fun cdv A outer s H vs Q E hr h => ⟨_, pss_cons (ps_expr (pe_meth (pv 0) T.cl m1 G1 (hr.mono (by decide)) b1 .nil (L2N.passes_call (L2N.takes_of rfl rfl rfl rfl) (fun _ _ _ _ h => h)) (by exact (pa_cons (pe_fld (pe_ix ix_list (pe_fld (pv 0) rfl) (pe_un un_neg pe_int) (fun _ _ => rfl)) rfl) pa_nil))))
      (pss_cons (ps_set (i := 1) scClose.nd rfl (Or.inl rfl) (pe_bm0 PySem.F.plainAttrs_list PySem.F.slot_list_pop PySem.F.type_list_pop mt_pop (pe_fld (pv 0) rfl)))
      (pss_one (ps_expr (pe_meth (pe_ix ix_list (pe_fld (pv 0) rfl) (pe_un un_neg pe_int) (fun _ _ => rfl)) TB.cl m2 G2 (hr.mono (by decide)) b2 .nil pass0 (by exact (pa_cons (pe_meth0 (pv 1) TB.cl m3 G3 (hr.mono (by decide)) b3 .nil pass0) (pa_cons (pe_fld (pv 1) rfl) pa_nil))))))), ?_⟩)
  · unfold spClose at h
    obtain ⟨_, _, _, _, _, _, _, _, _, _, _, _, _, _, rfl, _⟩ := h
    rfl
  unfold spClose at h
  obtain ⟨a, dx, ag, an, ab, g, ts, ks, M, F0, st, fr, frs, c, rfl, h, hf, hc, hQ⟩ := h
  have hlt := lt_of_some hc
  have sk := h.sk
  rw [hf] at sk
  cases ks with
  | nil => exact sk.elim
  | cons k ks =>
    obtain ⟨hbr, hs⟩ := sk
    refine ⟨_, rfl, a, dx, _, rfl, h.rd.1, rF_no (by decide +kernel), _, rfl, a, C, dx, _, _, rfl, h.rd.1, T.cl, T.nB, rF_brackets, _, rfl, ab, _, _, _, rfl, rfl, h.lastB, atI_last _ _, k.b, CB, k.dx, _, _, rfl, hbr.at_, TB.cl, TB.nC, bF_closing, ?_⟩
    refine take_use h.rd ?_
    unfold closeStep at hQ
    by_cases hcc : fr.close = [c]
    · rw [if_pos hcc] at hQ
      rw [takeE_yes hc (by rw [close_has hbr.clo]; exact decide_eq_true hcc)]
      intro H1 r1 k1
      have h1 := h.go r1 k1 (by omega) (Nat.le_succ _)
      cases frs with
      | nil =>
        rw [(hbr.out rfl).1] at hcc
        cases hcc
      | cons gg gs =>
        cases ks with
        | nil => exact hs.elim
        | cons k' ks' =>
          obtain ⟨hbr', hs'⟩ := hs
          have hQ' : ∀ H' ts' ks'' M' F', RS K C CB cs H' a dx ag an ab g ts' ks'' M' F' ⟨st.p + 1, g.drop (st.p + 1), st.ns, gg.push fr.atom :: gs⟩ → Same F0 F' → Q .non H' := hQ
          have ebl : H1 ab = some (.lst ((((k' :: ks').map Bk.b).reverse.map V.ref) ++ [V.ref k.b])) := by
            have e := h1.bl
            rw [List.map_cons, List.reverse_cons, List.map_append] at e
            exact e
          refine ⟨_, rfl, a, C, dx, _, _, rfl, h1.rd.1, T.cl, T.nB, rF_brackets, .inl ⟨rfl, _, .inl (.inl ebl)⟩, ab, _, V.ref k.b, rfl, rfl, ebl, by simp, ?_⟩
          -- popped
          have hdl : ((((k' :: ks').map Bk.b).reverse.map V.ref) ++ [V.ref k.b]).dropLast = ((k' :: ks').map Bk.b).reverse.map V.ref := List.dropLast_concat
          rw [hdl]
          have sk1 := h1.sk
          have hfe : ({ st with p := st.p + 1, b := g.drop (st.p + 1) } : Mach.St).frs = fr :: gg :: gs := hf
          rw [hfe] at sk1
          have hfl1 := h1.flen
          have hpl1 := h1.plen
          rw [hfe] at hfl1 hpl1
          obtain ⟨hbr1, hs1⟩ := sk1
          obtain ⟨n31, n32, n33⟩ := h1.n3
          have n2s : Sep [a, an, ab] (foots (k' :: ks')) := fun x m m2 => h1.n2 x m (by rw [foots_cons]; exact List.mem_append_right _ m2)
          have h2 := h1.pile (frs' := gg :: gs) hs1 (Nat.le_of_succ_le hfl1) (Nat.le_of_succ_le hpl1) n2s n33 (fun x m => h1.fm x (List.mem_append_right _ (by rw [foots_cons]; exact List.mem_append_right _ m)))
          have habk : ab ∉ k.foot := fun m => h1.n2 ab (by simp) (by rw [foots_cons]; exact List.mem_append_left _ m)
          have hbr2 := hbr1.keep (H' := upd H1 ab (.lst (((k' :: ks').map Bk.b).reverse.map V.ref))) (fun b o e m => (upd_ne (fun x => habk (by rw [← x]; exact m))).trans e) (fun _ _ h => h) (fun _ _ h => h) (Nat.le_refl _)
          have sk2 := h2.sk
          obtain ⟨hbr2', _⟩ := sk2
          refine ⟨_, rfl, a, C, dx, _, _, rfl, h2.rd.1, T.cl, T.nB, rF_brackets, _, rfl, ab, _, _, _, rfl, rfl, h2.lastB, atI_last _ _, k'.b, k'.dx, _, rfl, hbr2'.at_, bF_no (by decide +kernel), ?_⟩
          refine ⟨_, rfl, k.b, k.dx, _, rfl, hbr2.at_, bF_no (by decide +kernel), ?_⟩
          obtain ⟨rss, hfit, hrows⟩ := hbr.fit
          have hg128 := h.g128
          have hrne : k.rows ≠ [] := fun e => by
            rw [e] at hfit
            have := hfit.len
            rw [List.length_append] at this
            simp at this
          refine made_use hbr2 hrne (by show st.p + 1 + 1 ≤ 1000; omega) hfit h2.wd h2.fz hrows ?_
          intro H3 M1 F1 x s3 sF3 sFH3 hM3 hW3 hg3 hx3
          have h3 := h2.made s3 sF3 sFH3 hM3 hW3 hg3 (fun y m m2 => by
            have mk : y ∈ k.foot := List.mem_cons_of_mem _ (List.mem_cons_of_mem _ m2)
            rcases List.mem_append.mp m with m | m
            · exact h1.n2 y m (by rw [foots_cons]; exact List.mem_append_left _ mk)
            · exact n32 y mk m)
          refine ⟨_, rfl, k.b, CB, k.dx, _, _, rfl, s3 _ _ hbr2.at_, TB.cl, TB.nA, bF_atoms, ?_⟩
          have sk3 := h3.sk
          obtain ⟨hbr3, _⟩ := sk3
          obtain ⟨rs, al, bs, rss3, er3, hfr3, hfi3, hrows3, har3, hal3, hbl3⟩ := hbr3.cur
          have hbl0 : bs.length ≤ st.p := hbr'.ilen (al, bs) (by rw [er3]; simp)
          refine badd_use hbr3.at_ har3 hal3 (by rw [List.length_map]; omega) fun H4 hb4 hal4 k4 => ?_
          have hpl := h.plen
          rw [hf, List.length_cons, List.length_cons] at hpl
          refine hQ' H4 ts _ M1 F1 (RS.push h3 rfl er3 (pt := fr.atom) (hx3.mono (fun _ _ h => h) ?_) ?_ hal4 k4 ?_) sF3
          · show 2 * (st.p - (gg :: gs).length) + 3 ≤ 2 * (st.p + 1 - gs.length)
            rw [List.length_cons]
            omega
          · rw [atom_size]
            exact hb4
          · show bs.length + 1 ≤ st.p + 1
            omega
    · rw [if_neg hcc] at hQ
      rw [takeE_no hc (by rw [close_has hbr.clo]; exact decide_eq_false hcc)]
      exact hQ
end
end Pat
end

section
namespace Pat
open PySem PySem.Spec PyProof.Rows L2
open PySem.FaultX (FaultTxt)
open PatUtf (Fault)
open PatWords (Pat repP timesP Name)
open Mach (Fr)
/-! ### lists of bytes as data -/
def gd (n : List UInt8) : List PyData := n.map fun c => PyData.int (c.toNat : Nat)
theorem dp_ints {K : PySem.W.Frag} {H : Hp} : ∀ n : List UInt8, DpAll K H (gv n) (gd n)
  | [] => .nil
  | c :: n => .cons (.int _) (dp_ints n)
theorem gd_eqv : ∀ x y : List UInt8, PyData.eqvAll (gd x) (gd y) = (x == y)
  | [], [] => by simp [gd, PyData.eqvAll]
  | [], _ :: _ => by simp [gd, PyData.eqvAll]
  | _ :: _, [] => by simp [gd, PyData.eqvAll]
  | c :: x, d :: y => by
    have ih := gd_eqv x y
    have e1 : PyData.eqvAll (gd (c :: x)) (gd (d :: y)) = (PyData.eqv (.int (c.toNat : Nat)) (.int (d.toNat : Nat)) && PyData.eqvAll (gd x) (gd y)) := by
      show PyData.eqvAll (_ :: gd x) (_ :: gd y) = _
      rw [PyData.eqvAll]
    rw [e1, ih]
    have e2 : PyData.eqv (.int (c.toNat : Nat)) (.int (d.toNat : Nat)) = (c == d) := by
      rw [PyData.eqv]
      by_cases h : c = d
      · subst h
        simp
      · have h2 : ¬ c.toNat = d.toNat := fun z => h (UInt8.toNat_inj.mp z)
        have h3 : (c == d) = false := by simpa using h
        rw [h3]
        cases e : (((c.toNat : Nat) : Int) == ((d.toNat : Nat) : Int)) with
        | false => rfl
        | true => exact absurd (Int.ofNat.inj (beq_iff_eq.mp e)) h2
    rw [e2]
    rfl
theorem gd_lay : ∀ n : List UInt8, PyData.canLayAll0 (gd n) = true
  | [] => by simp [gd, PyData.canLayAll0]
  | c :: n => by
    show PyData.canLayAll0 (_ :: gd n) = true
    rw [PyData.canLayAll0, gd_lay n, PyData.canLay0]
    rfl
theorem gd_depth : ∀ n : List UInt8, PyData.depthAll (gd n) = 0
  | [] => by simp [gd, PyData.depthAll]
  | c :: n => by
    show PyData.depthAll (_ :: gd n) = 0
    rw [PyData.depthAll, gd_depth n, PyData.depth]
    rfl
theorem gd_shaped (n : List UInt8) : SeqAt.shaped (.list (gd n)) = true := by
  unfold SeqAt.shaped
  rw [PyData.canLay0, gd_lay, PyData.depth, gd_depth]
  rfl
theorem gds_lay : ∀ l : List (List UInt8), PyData.canLayAll0 (l.map fun n => PyData.list (gd n)) = true ∧ PyData.depthAll (l.map fun n => PyData.list (gd n)) ≤ 1
  | [] => by simp [PyData.canLayAll0, PyData.depthAll]
  | n :: l => by
    obtain ⟨h1, h2⟩ := gds_lay l
    show PyData.canLayAll0 (_ :: l.map _) = true ∧ PyData.depthAll (_ :: l.map _) ≤ 1
    rw [PyData.canLayAll0, h1, PyData.canLay0, gd_lay, PyData.depthAll, PyData.depth, gd_depth]
    exact ⟨rfl, by omega⟩
theorem gds_shaped (l : List (List UInt8)) : SeqAt.shaped (.list (l.map fun n => PyData.list (gd n))) = true := by
  obtain ⟨h1, h2⟩ := gds_lay l
  unfold SeqAt.shaped
  rw [PyData.canLay0, h1, PyData.depth, Bool.true_and]
  exact decide_eq_true (by omega)
theorem cut_gv {g : List UInt8} {p q : Nat} (h : p ≤ q) : cutV (gv g) (some ((p : Nat) : Int)) (some ((q : Nat) : Int)) = gv ((g.drop p).take (q - p)) := by
  unfold cutV
  rw [HT.sIx_nat, HT.sIx_nat, gv_len]
  unfold gv
  rw [List.map_take, List.map_drop]
  by_cases hp : p ≤ g.length
  · rw [Nat.min_eq_left hp]
    by_cases hq : q ≤ g.length
    · rw [Nat.min_eq_left hq]
    · rw [Nat.min_eq_right (by omega), List.take_of_length_le (by simp), List.take_of_length_le (by simp; omega)]
  · rw [Nat.min_eq_right (by omega), Nat.min_eq_right (by omega), List.drop_of_length_le (by simp), List.drop_of_length_le (by simp; omega)]
    simp
/-- new lists, each of a name's bytes -/
def Lss (H : Hp) (D : Addr) : List Addr → List Name → Prop
  | [], [] => True
  | p :: ps, n :: ns => (H p = some (.lst (gv n)) ∧ p ≠ D) ∧ Lss H D ps ns
  | _, _ => False
theorem Lss.keep {H H' : Hp} {D : Addr} (k : ∀ q o, q ≠ D → H q = some o → H' q = some o) : ∀ {ps : List Addr} {ns : List Name}, Lss H D ps ns → Lss H' D ps ns
  | [], [], _ => trivial
  | [], _ :: _, h => h.elim
  | _ :: _, [], h => h.elim
  | p :: ps, n :: ns, ⟨⟨h1, h2⟩, h3⟩ => ⟨⟨k _ _ h2 h1, h2⟩, Lss.keep k h3⟩
theorem Lss.snoc {H : Hp} {D p : Addr} {n : Name} (hp : H p = some (.lst (gv n))) (hd : p ≠ D) : ∀ {ps : List Addr} {ns : List Name}, Lss H D ps ns → Lss H D (ps ++ [p]) (ns ++ [n])
  | [], [], _ => ⟨⟨hp, hd⟩, trivial⟩
  | [], _ :: _, h => h.elim
  | _ :: _, [], h => h.elim
  | _ :: ps, _ :: ns, ⟨h1, h2⟩ => ⟨h1, Lss.snoc hp hd h2⟩
theorem Lss.len {H : Hp} {D : Addr} : ∀ {ps : List Addr} {ns : List Name}, Lss H D ps ns → ps.length = ns.length
  | [], [], _ => rfl
  | [], _ :: _, h => h.elim
  | _ :: _, [], h => h.elim
  | _ :: ps, _ :: ns, ⟨_, h2⟩ => congrArg (· + 1) (Lss.len h2)
theorem Lss.dp {K : PySem.W.Frag} {H : Hp} {D : Addr} : ∀ {ps : List Addr} {ns : List Name}, Lss H D ps ns → DpAll K H (ps.map V.ref) (ns.map fun n => PyData.list (gd n))
  | [], [], _ => .nil
  | [], _ :: _, h => h.elim
  | _ :: _, [], h => h.elim
  | _ :: ps, _ :: ns, ⟨⟨h1, _⟩, h2⟩ => .cons (.lst (SqL.of h1) (dp_ints _)) (Lss.dp h2)
section
variable {P : Program} {w : World} {K : PySem.W.Frag} {mg : Str → Option Value} {base : Heap} {C CB CF fI : Addr} {cs : Cs} {H : Hp} {a dx ag an ab : Addr} {g : List UInt8} {ts : List Addr} {ks : List Bk} {M : PM} {F0 : Hp} {st : Mach.St} {Q : VK} {E : XK}
theorem get_more {nm : List Name} {n : Name} : ∀ (k : Nat) (m : Name), nm[k]? = some m → (nm ++ [n])[k]? = some m := fun k m h => by
  rw [List.getElem?_append_left (List.getElem?_eq_some_iff.mp h).1]
  exact h
/-- a name is written behind the others -/
theorem RS.name (h : RS K C CB cs H a dx ag an ab g ts ks M F0 st) {t : Addr} {fp : Nat} {n : Name} (ht : SqT K H t [.int (fp : Nat), .int (n.length : Nat)]) (ok : NmOk g (fp, n)) (h16 : st.ns.length < 16) (hnew : n ∉ nmsOf st) :
    RS K C CB cs (upd H an (.lst (ts.map V.ref ++ [V.ref t]))) a dx ag an ab g (ts ++ [t]) ks M F0 { st with ns := st.ns ++ [(fp, n)] } := by
  have enm : nmsOf { st with ns := st.ns ++ [(fp, n)] } = nmsOf st ++ [n] := by
    show (st.ns ++ [(fp, n)]).map (·.2) = _
    rw [List.map_append]
    rfl
  exact {
    rd := ⟨(upd_ne h.n1.1).trans h.rd.1, sql_same h.sq (same_upd h.fz h.fn), h.rd.2.2⟩
    b := h.b
    nl := upd_same.trans (by rw [List.map_append]; rfl)
    nm := Nms.snoc (sqt_upd ht h.nl) (Nms.map (fun t xs e => sqt_upd e h.nl) h.nm)
    ok := fun x m => by
      rcases List.mem_append.mp m with m | m
      · exact h.ok x m
      · rw [List.mem_singleton.mp m]
        exact ok
    bl := (upd_ne h.n1.2.2.symm).trans h.bl
    sk := by
      rw [enm]
      exact Stk.keep (fun _ _ h => h) get_more (Nat.le_refl _) h.sk fun b o e m => (upd_ne (fun x => h.n2 an (by simp) (by rw [← x]; exact m))).trans e
    wd := by
      rw [enm]
      exact h.wd.names get_more
    fz := same_upd h.fz h.fn
    sq := h.sq
    n1 := h.n1
    n2 := h.n2
    n3 := h.n3
    fm := h.fm
    nmd := by
      rw [enm]
      refine List.nodup_append.mpr ⟨h.nmd, by simp, fun x m y m2 e => ?_⟩
      rw [List.mem_singleton.mp m2] at e
      exact hnew (by rw [← e]; exact m)
    nlen := by
      show (st.ns ++ [(fp, n)]).length ≤ 16
      rw [List.length_append]
      exact h16
    flen := h.flen
    plen := h.plen
    g128 := h.g128 }
theorem hu65 {k : Nat} {A : Around} (hr : Room k A) : A.units + 65 < cLine := by
  have := hr.un
  omega
/-! ### names_in -/
@[irreducible] def spNmIn (K : PySem.W.Frag) : Sp := fun vs H Q _ => ∃ (ag an : Addr) (g : List UInt8) (ts : List Addr) (ns : List (Nat × Name)), vs = [.ref ag, .ref an] ∧ SqL K H ag (gv g) ∧ H an = some (.lst (ts.map V.ref)) ∧ Nms K H ts ns ∧ (∀ x ∈ ns, NmOk g x) ∧ ns.length ≤ 1000 ∧
  ∀ H' D ps, Same H H' → H D = none → H' D = some (.lst (ps.map V.ref)) → Lss H' D ps (ns.map Prod.snd) → Q (.ref D) H'
theorem nmin_use {ag an : Addr} {g : List UInt8} {ts : List Addr} {ns : List (Nat × Name)} (sq : SqL K H ag (gv g)) (han : H an = some (.lst (ts.map V.ref))) (hn : Nms K H ts ns) (ho : ∀ x ∈ ns, NmOk g x) (hl : ns.length ≤ 1000)
    (r : ∀ H' D ps, Same H H' → H D = none → H' D = some (.lst (ps.map V.ref)) → Lss H' D ps (ns.map Prod.snd) → Q (.ref D) H') : spNmIn K [.ref ag, .ref an] H Q E := by
  unfold spNmIn
  exact ⟨ag, an, g, ts, ns, rfl, sq, han, hn, ho, hl, r⟩
abbrev nmNmIn : List Str := ["given", "spots", "place", "length"]
theorem scNmIn : FnScope nmNmIn ["given", "spots"] (defScope (top i_names_in)) := ⟨rfl, rfl, rfl, by decide +kernel, rfl, by decide +kernel, by decide +kernel⟩
theorem ok_nmin {f : Addr} {fd : FuncData} (F : Fun K "names_in" "names_in" (top i_names_in) f fd) : FnOk P w K mg base CX0 2 f fd ["given", "spots"] (spNmIn K) := by
  refine F.ok scNmIn (fun vs H Q E h => ?_) (fun cdv A outer s H vs Q E hr h => ⟨_, pss_one (ps_ret (pe_lc (own := [("place", 2), ("length", 3)]) (g := gTup K 2 (gCons (gName 2) (gCons (gName 3) gNil))) (tt := tYes) (te := tSl (rSlL K) (tVar 0) (tPart (tVar 2)) (tPart (tOp (rI0 fun i j => .int (i + j)) (tVar 2) (tVar 3)))) rfl scNmIn.nd (pi_list (pv 1)) (blkOk_by (N := nmNmIn) (sc := defScope (top i_names_in)) (by decide +kernel))
          (fun _ _ _ _ _ => pg_tup rfl (pgs_cons (pg_name (i := 2) scNmIn.nd rfl (Or.inl rfl)) (pgs_cons (pg_name (i := 3) scNmIn.nd rfl (Or.inl rfl)) pgs_nil))) (fun _ _ _ _ _ => pts_nil)
          (fun _ _ _ _ _ => by exact (pe_slice sl_list (pv 0) (po_some (pv 2)) (po_some (pe_op op_add (pv 2) (pv 3))))))), ?_⟩)
  · unfold spNmIn at h
    obtain ⟨_, _, _, _, _, rfl, _⟩ := h
    rfl
  unfold spNmIn at h
  obtain ⟨ag, an, g, ts, ns, rfl, sq, han, hnm, hok0, hl, hQ⟩ := h
  have htl := Nms.len hnm
  refine ⟨_, rfl, an, rfl, ⟨_, SqL.of han⟩, fun D hD => ?_⟩
  refine lc_it walk_list (fun i H1 => Same H H1 ∧ ∃ ps, H1 D = some (.lst (ps.map V.ref)) ∧ Lss H1 D ps ((ns.take i).map Prod.snd)) ⟨Same.upd hD, [], upd_same, trivial⟩ (fun i H1 _ hp => SqL.of (hp.1 _ _ han)) ?_ ?_
  · rintro i x H1 H2 hi ⟨s1, ps, hps, hl2⟩ ⟨rfl, hx⟩
    rw [List.getElem?_map] at hx
    obtain ⟨t, ht, rfl⟩ : ∃ t, ts[i]? = some t ∧ x = V.ref t := by
      cases e : ts[i]? with
      | none => rw [e] at hx; cases hx
      | some t => rw [e] at hx; exact ⟨t, rfl, (Option.some.inj hx).symm⟩
    obtain ⟨n, hn, hsq⟩ := Nms.get (Nms.map (fun t xs e => sqt_same e s1) hnm) ht
    have hok : NmOk g n := hok0 n (List.mem_of_getElem? hn)
    refine ⟨t, _, rfl, hsq, rfl, _, _, rfl, _, _, rfl, rfl, rfl, ?_⟩
    unfold tYes
    dsimp only
    rw [if_pos rfl]
    refine ⟨_, rfl, _, rfl, _, rfl, _, rfl, _, rfl, _, _, rfl, rfl, _, rfl, ag, _, rfl, sql_same sq s1, fun p hp => ?_⟩
    have hpD : p ≠ D := (ne_of_none hps hp).symm
    refine ⟨_, (upd_ne hpD.symm).trans hps, ?_, ?_⟩
    · rw [List.length_map, Lss.len hl2, List.length_map, List.length_take]
      exact small1000 (by omega)
    · have ecut : cutV (gv g) (some ((n.1 : Nat) : Int)) (some (((n.1 : Nat) : Int) + ((n.2.length : Nat) : Int))) = gv n.2 := by
        have e1 : (((n.1 : Nat) : Int) + ((n.2.length : Nat) : Int)) = (((n.1 + n.2.length : Nat)) : Int) := by omega
        rw [e1, cut_gv (by omega), Nat.add_sub_cancel_left, ← hok]
      rw [ecut]
      refine ⟨fun b o e => ?_, ps ++ [p], ?_, ?_⟩
      · rw [upd_ne (ne_of_none e hD), upd_ne (ne_of_none (s1 b o e) hp)]
        exact s1 b o e
      · rw [upd_same, List.map_append]
        rfl
      · have e2 : (ns.take (i + 1)).map Prod.snd = (ns.take i).map Prod.snd ++ [n.2] := by
          rw [List.take_add_one, hn, List.map_append]
          rfl
        rw [e2]
        refine Lss.snoc ((upd_ne hpD).trans upd_same) hpD (Lss.keep (fun q o hq e => ?_) hl2)
        rw [upd_ne hq, upd_ne (ne_of_none e hp)]
        exact e
  · rintro H1 ⟨s1, ps, hps, hl2⟩
    have et : ns.take (ts.map V.ref).length = ns := List.take_of_length_le (by rw [List.length_map, htl]; exact Nat.le_refl _)
    rw [et] at hl2
    exact hQ H1 D ps s1 hD hps hl2
/-! ### keep_name -/
def keepStep (g : List UInt8) (st : Mach.St) (fp : Nat) : Except Fault Mach.St :=
  if PatWords.NAMELEN < ((g.drop fp).take (st.p - fp)).length ∨ (st.ns.any fun (y : Nat × Name) => y.2 == (g.drop fp).take (st.p - fp)) = true ∨ PatWords.NAMES ≤ st.ns.length then .error ⟨4, fp⟩ else .ok { st with ns := st.ns ++ [(fp, (g.drop fp).take (st.p - fp))] }
@[irreducible] def spKeep (K : PySem.W.Frag) (C CB CF : Addr) (cs : Cs) : Sp := fun vs H Q E => ∃ (a dx ag an ab : Addr) (g : List UInt8) (ts : List Addr) (ks : List Bk) (M : PM) (F : Hp) (st : Mach.St) (fp : Nat), vs = [.ref a, .int fp] ∧ RS K C CB cs H a dx ag an ab g ts ks M F st ∧ fp ≤ st.p ∧ StepRet K C CB CF cs a dx ag an ab g F Q E (keepStep g st fp)
theorem keep_use {fp : Nat} (h : RS K C CB cs H a dx ag an ab g ts ks M F0 st) (hfp : fp ≤ st.p) (r : StepRet K C CB CF cs a dx ag an ab g F0 Q E (keepStep g st fp)) : spKeep K C CB CF cs [.ref a, .int (fp : Nat)] H Q E := by
  unfold spKeep
  exact ⟨a, dx, ag, an, ab, g, ts, ks, M, F0, st, fp, rfl, h, hfp, r⟩
abbrev nmKeep : List Str := ["self", "first_place", "length", "taken", "known"]
theorem scKeep : FnScope nmKeep ["self", "first_place"] (defScope (sR 15)) := ⟨rfl, rfl, rfl, by decide +kernel, rfl, by decide +kernel, by decide +kernel⟩
theorem ok_keep {f : Addr} {fd : FuncData} (F : Fun K "keep_name" "Reader.keep_name" (sR 15) f fd) (T : Txt K mg C CF fI) (k32 : ∃ t, mg "LONGEST_NAME" = some (.int 32 t)) (k16 : ∃ t, mg "MOST_NAMES" = some (.int 16 t)) (k4 : ∃ t, mg "NAME_REFUSED" = some (.int 4 t)) (G1 : GOk P w K mg base CX0 2 "names_in" ["given", "spots"] (spNmIn K)) :
    FnOk P w K mg base (L2N.CX P w) 3 f fd ["self", "first_place"] (spKeep K C CB CF cs) := by
  obtain ⟨f1, fd1, gg1, k1, b1, G1⟩ := G1
  refine F.okN scKeep (fun vs H Q E h => ?_) (fun cdv A outer s H vs Q E hr h => ⟨_, pss_cons (ps_set (i := 2) scKeep.nd rfl (Or.inl rfl) (pe_op op_sub (pe_fld (pv 0) rfl) (pv 1)))
      (pss_cons (ps_set (i := 3) scKeep.nd rfl (Or.inl rfl) (pe_call G1 hr rfl gg1 k1 b1 .nil pass0 (by exact (pa_cons (pe_fld (pv 0) rfl) (pa_cons (pe_fld (pv 0) rfl) pa_nil)))))
      (pss_cons (ps_set (i := 4) scKeep.nd rfl (Or.inl rfl) (pe_cmpR (op_inD (hu65 hr)) (pe_slice sl_list (pe_fld (pv 0) rfl) (po_some (pv 1)) (po_some (pe_fld (pv 0) rfl))) (pv 3) (by rfl)))
      (pss_cons (ps_if (PW.pt (pw_or (pt_val (pv 4)) (pw_or (pt_cmpR op_gt (pv 2) (pe_gi k32) (nomark _)) (pw_or1 (pt_cmpR op_eq (pe_callB call_len_seq (by rfl) T.len PySem.boot_len (pa_cons (pv 3) pa_nil)) (pe_gi k16) (nomark _))))))
        (pss_one (ps_raiseFault rfl T.ft hr (L2N.takes_of rfl rfl rfl rfl) (by exact (pa_cons (pe_gi k4) (pa_cons (pv 1) pa_nil))))) pss_nil)
      (pss_one (ps_expr (pe_bm PySem.F.plainAttrs_list PySem.F.slot_list_append PySem.F.type_list_append mt_append (pe_fld (pv 0) rfl) (by exact (pa_cons (pe_tup (pa_cons (pv 1) (pa_cons (pv 2) pa_nil))) pa_nil)))))))), ?_⟩)
  · unfold spKeep at h
    obtain ⟨_, _, _, _, _, _, _, _, _, _, _, _, rfl, _⟩ := h
    rfl
  unfold spKeep at h
  obtain ⟨a, dx, ag, an, ab, g, ts, ks, M, F0, st, fp, rfl, h, hfp, hQ⟩ := h
  refine ⟨_, rfl, a, C, dx, _, _, rfl, h.rd.1, T.cl, T.nP, rF_place, _, rfl, _, _, rfl, rfl, ?_⟩
  refine ⟨_, rfl, a, C, dx, _, _, rfl, h.rd.1, T.cl, T.nG, rF_given, _, rfl, a, C, dx, _, _, rfl, h.rd.1, T.cl, T.nN, rF_names, ?_⟩
  have htl := Nms.len h.nm
  refine nmin_use h.rd.2.1 h.nl h.nm h.ok (by have := h.nlen; omega) fun H1 D ps s1 hD hps hl => ?_
  · have h1 := h.same s1
    have hlen : ((g.drop fp).take (st.p - fp)).length = st.p - fp := by
      rw [List.length_take, List.length_drop]
      have := h.rd.2.2.1
      omega
    refine ⟨_, rfl, a, C, dx, _, _, rfl, h1.rd.1, T.cl, T.nG, rF_given, _, rfl, _, rfl, _, rfl, a, C, dx, _, _, rfl, h1.rd.1, T.cl, T.nP, rF_place, _, rfl, ag, _, rfl, h1.rd.2.1, fun p hp => ?_⟩
    rw [cut_gv hfp]
    have s2 : Same H1 (upd H1 p (.lst (gv ((g.drop fp).take (st.p - fp))))) := Same.upd hp
    have h2 := h1.same s2
    have hpD : p ≠ D := (ne_of_none hps hp).symm
    have hl2 : Lss (upd H1 p (.lst (gv ((g.drop fp).take (st.p - fp))))) D ps (st.ns.map Prod.snd) := Lss.keep (fun q o _ e => s2 q o e) hl
    have hps2 := s2 _ _ hps
    refine ⟨_, rfl, _, _, .lst (SqL.of upd_same) (dp_ints _), .lst (SqL.of hps2) (Lss.dp hl2), gd_shaped _, gds_shaped _, ?_⟩
    have eany : (((st.ns.map Prod.snd).map fun n => PyData.list (gd n)).any fun z => PyData.eqv z (.list (gd ((g.drop fp).take (st.p - fp))))) = st.ns.any fun (y : Nat × Name) => y.2 == (g.drop fp).take (st.p - fp) := by
      rw [List.any_map, List.any_map]
      congr 1
      funext y
      show PyData.eqv (.list (gd y.2)) (.list (gd _)) = _
      rw [PyData.eqv, gd_eqv]
    rw [eany]
    unfold keepStep at hQ
    rw [hlen] at hQ
    refine ⟨_, rfl, _, rfl, ?_⟩
    by_cases c1 : (st.ns.any fun (y : Nat × Name) => y.2 == (g.drop fp).take (st.p - fp)) = true
    · rw [if_pos (.inr (.inl c1))] at hQ
      have hQ' : Out CF ⟨4, fp⟩ E := hQ
      exact if_true_of c1 (if_true_of rfl ⟨_, rfl, _, _, rfl, fun d hd => hQ' d _ upd_same⟩)
    · refine if_false_of (Bool.eq_false_iff.mpr c1) ⟨_, rfl, _, _, rfl, rfl, _, rfl, ?_⟩
      by_cases c2 : 32 < st.p - fp
      · rw [if_pos (.inl c2)] at hQ
        have hQ' : Out CF ⟨4, fp⟩ E := hQ
        exact if_true_of (decide_eq_true (by omega)) (if_true_of rfl ⟨_, rfl, _, _, rfl, fun d hd => hQ' d _ upd_same⟩)
      · refine if_false_of (decide_eq_false (by omega)) ⟨_, rfl, _, _, rfl, .inl (SqL.of hps2), rfl, _, rfl, ?_⟩
        have epl : (ps.map V.ref).length = st.ns.length := by rw [List.length_map, Lss.len hl2, List.length_map]
        have hn16 := h.nlen
        by_cases c3 : st.ns.length = 16
        · rw [if_pos (.inr (.inr (by unfold PatWords.NAMES; omega)))] at hQ
          have hQ' : Out CF ⟨4, fp⟩ E := hQ
          refine if_true_of ?_ ⟨_, rfl, _, _, rfl, fun d hd => hQ' d _ upd_same⟩
          rw [epl, c3]
          exact decide_eq_true rfl
        · rw [if_neg (by unfold PatWords.NAMES PatWords.NAMELEN; rintro (h | h | h); exact c2 h; exact c1 h; omega)] at hQ
          refine if_false_of (decide_eq_false fun e => c3 ?_) ?_
          · rw [epl] at e
            injection e with e
            omega
          have hQ' : ∀ H' ts' ks' M' F', RS K C CB cs H' a dx ag an ab g ts' ks' M' F' { st with ns := st.ns ++ [(fp, (g.drop fp).take (st.p - fp))] } → Same F0 F' → Q .non H' := hQ
          refine ⟨_, rfl, a, C, dx, _, _, rfl, h2.rd.1, T.cl, T.nN, rF_names, .inl ⟨rfl, _, SqL.of h2.nl⟩, _, rfl, _, rfl, by show 2 ≤ sizeLine; decide, fun t ht => ?_⟩
          have s3 := Same.upd (o := HO.tup [V.int (fp : Nat), V.int (((st.p : Nat) : Int) - ((fp : Nat) : Int))]) ht
          have h3 := h2.same s3
          have elen : (((st.p : Nat) : Int) - ((fp : Nat) : Int)) = (((g.drop fp).take (st.p - fp)).length : Int) := by
            rw [hlen]
            omega
          refine ⟨an, _, _, rfl, rfl, h3.nl, ?_, ?_⟩
          · rw [List.length_map, htl]
            exact small1000 (by omega)
          · refine hQ' _ _ _ _ _ (h3.name (t := t) (SqT.of (upd_same.trans (by rw [elen]))) ?_ (by omega) (fun m => c1 ?_)) (fun _ _ h => h)
            rotate_left
            · obtain ⟨y, hy, ey⟩ := List.mem_map.mp m
              exact List.any_eq_true.mpr ⟨y, hy, beq_iff_eq.mpr ey⟩
            show (g.drop fp).take (st.p - fp) = (g.drop fp).take ((g.drop fp).take (st.p - fp)).length
            rw [hlen]
end
end Pat
end

section
namespace Pat
open PySem PySem.Spec PyProof.Rows L2
open PySem.FaultX (FaultTxt)
open PatUtf (Fault)
open PatWords (Pat repP timesP Name)
open Mach (Fr)
abbrev zSmall : Str := "abcdefghijklmnopqrstuvwxyz"
abbrev zName : Str := "abcdefghijklmnopqrstuvwxyz0123456789_"
theorem at_small (c : UInt8) : (cds zSmall).contains c.toNat = PatUtf.isSmall c :=
  beq_iff_eq.mp (u8_all (p := fun c => (cds zSmall).contains c.toNat == PatUtf.isSmall c) (by decide +kernel) c)
theorem at_name (c : UInt8) : (cds zName).contains c.toNat = PatUtf.inName c :=
  beq_iff_eq.mp (u8_all (p := fun c => (cds zName).contains c.toNat == PatUtf.inName c) (by decide +kernel) c)
theorem small_name {c : UInt8} (h : PatUtf.isSmall c = true) : PatUtf.inName c = true := by
  unfold PatUtf.inName
  rw [h]
  rfl
def nameStep (g : List UInt8) (st : Mach.St) : Except Fault Mach.St := match Mach.nameP st.ns st.p (g.drop st.p) with
  | .error e => .error e
  | .ok (n, _, q) => .ok ⟨q, g.drop q, st.ns ++ [(st.p, n)], st.frs⟩
/-- what is told of a name from its end on -/
theorem name_rest {g : List UInt8} {st : Mach.St} {d : UInt8} {q : Nat} (hd : g[st.p]? = some d) (hs : PatUtf.isSmall d = true) (hq : st.p < q) (hql : q ≤ g.length) (hlen : ((g.drop st.p).takeWhile PatUtf.inName).length = q - st.p) :
    nameStep g st = if q = g.length then .error ⟨1, q⟩ else match keepStep g { st with p := q, b := g.drop q } st.p with
      | .error e => .error e
      | .ok st' => match g[q]? with
        | none => .error ⟨1, q⟩
        | some e => if e ≠ 32 then .error ⟨2, q⟩ else .ok { st' with p := q + 1, b := g.drop (q + 1) } := by
  have hdl : (g.drop st.p).length = g.length - st.p := List.length_drop
  have hn : (g.drop st.p).takeWhile PatUtf.inName = (g.drop st.p).take (q - st.p) := by
    have := List.prefix_iff_eq_take.mp (List.takeWhile_prefix (p := PatUtf.inName) (l := g.drop st.p))
    rw [hlen] at this
    exact this
  have htl : ((g.drop st.p).take (q - st.p)).length = q - st.p := by rw [← hn]; exact hlen
  unfold nameStep Mach.nameP
  rw [drop_cons hd]
  dsimp only
  rw [← drop_cons hd, hn, htl, hdl, if_neg (by rw [hs]; decide)]
  have ep : st.p + (q - st.p) = q := by omega
  by_cases c1 : q = g.length
  · rw [if_pos c1, if_pos (by omega), ep]
  · rw [if_neg c1, if_neg (by omega)]
    unfold keepStep
    dsimp only
    rw [htl]
    by_cases c2 : PatWords.NAMELEN < q - st.p ∨ (st.ns.any fun (y : Nat × Name) => y.2 == (g.drop st.p).take (q - st.p)) = true ∨ PatWords.NAMES ≤ st.ns.length
    · rw [if_pos c2, if_pos c2]
    · rw [if_neg c2, if_neg c2, List.drop_drop, ep]
      dsimp only
      cases he : g[q]? with
      | none => rw [drop_none he]
      | some e =>
        rw [drop_cons he]
        dsimp only
        by_cases c3 : e ≠ 32
        · rw [if_pos c3, if_pos c3]
        · rw [if_neg c3, if_neg c3]
          have e2 : st.p + 1 + (q - st.p) = q + 1 := by omega
          dsimp only
          rw [e2]
section
variable {P : Program} {w : World} {K : PySem.W.Frag} {mg : Str → Option Value} {base : Heap} {C CB CF fI : Addr} {cs : Cs} {H : Hp} {a dx ag an ab : Addr} {g : List UInt8} {ts : List Addr} {ks : List Bk} {M : PM} {F0 : Hp} {st : Mach.St} {Q : VK} {E : XK}
/-! ### take_name -/
@[irreducible] def spName (K : PySem.W.Frag) (C CB CF : Addr) (cs : Cs) : Sp := fun vs H Q E => ∃ (a dx ag an ab : Addr) (g : List UInt8) (ts : List Addr) (ks : List Bk) (M : PM) (F : Hp) (st : Mach.St), vs = [.ref a] ∧ RS K C CB cs H a dx ag an ab g ts ks M F st ∧ StepRet K C CB CF cs a dx ag an ab g F Q E (nameStep g st)
theorem name_use (h : RS K C CB cs H a dx ag an ab g ts ks M F0 st) (r : StepRet K C CB CF cs a dx ag an ab g F0 Q E (nameStep g st)) : spName K C CB CF cs [.ref a] H Q E := by
  unfold spName
  exact ⟨a, dx, ag, an, ab, g, ts, ks, M, F0, st, rfl, h, r⟩
theorem scName : FnScope ["self", "first_place"] ["self"] (defScope (sR 16)) := ⟨rfl, rfl, rfl, by decide +kernel, rfl, by decide +kernel, by decide +kernel⟩
theorem ok_name {f : Addr} {fd : FuncData} (F : Fun K "take_name" "Reader.take_name" (sR 16) f fd) (T : Txt K mg C CF fI) (hS1 : ∃ t, mg "SMALL_LETTERS" = some (.str zSmall t)) (hS2 : ∃ t, mg "NAME_SIGNS" = some (.str zName t))
    (M1 : MOk P w K mg base CX0 C 2 "at" ["self", "signs"] (spAt K C)) (M2 : MOk P w K mg base (L2N.CX P w) C 3 "take" ["self", "signs"] (spTake K C CF))
    (M3 : MOk P w K mg base (L2N.CX P w) C 2 "need_byte" ["self"] (spNeed K C CF)) (M4 : MOk P w K mg base (L2N.CX P w) C 3 "keep_name" ["self", "first_place"] (spKeep K C CB CF cs)) :
    FnOk P w K mg base (L2N.CX P w) 4 f fd ["self"] (spName K C CB CF cs) := by
  obtain ⟨f1, fd1, m1, b1, G1⟩ := M1
  obtain ⟨f2, fd2, m2, b2, G2⟩ := M2
  obtain ⟨f3, fd3, m3, b3, G3⟩ := M3
  obtain ⟨f4, fd4, m4, b4, G4⟩ := M4
  refine F.okN scName (fun vs H Q E h => ?_) (fun cdv A outer s H vs Q E hr h => ⟨_, pss_cons (ps_set (i := 1) scName.nd rfl (Or.inl rfl) (pe_fld (pv 0) rfl))
      (pss_cons (ps_expr (pe_meth (pv 0) T.cl m2 G2 hr b2 .nil (L2N.passes_call (L2N.takes_of rfl rfl rfl rfl) (fun _ _ _ _ h => h)) (by exact (pa_cons (pe_gs hS1) pa_nil))))
      (pss_cons (ps_while (passes_of rfl) (pt_val (pe_meth (pv 0) T.cl m1 G1 (hr.mono (by decide)) b1 .nil pass0 (by exact (pa_cons (pe_gs hS2) pa_nil)))) (pss_one (ps_expr (pe_meth (pv 0) T.cl m2 G2 hr b2 .nil (L2N.passes_call (L2N.takes_of rfl rfl rfl rfl) (fun _ _ _ _ h => h)) (by exact (pa_cons (pe_gs hS2) pa_nil))))))
      (pss_cons (ps_expr (pe_meth0 (pv 0) T.cl m3 G3 (hr.mono (by decide)) b3 .nil (L2N.passes_call (L2N.takes_of rfl rfl rfl rfl) (fun _ _ _ _ h => h))))
      (pss_cons (ps_expr (pe_meth (pv 0) T.cl m4 G4 (hr.mono (by decide)) b4 .nil (L2N.passes_call (L2N.takes_of rfl rfl rfl rfl) (fun _ _ _ _ h => h)) (by exact (pa_cons (pv 1) pa_nil))))
      (pss_one (ps_expr (pe_meth (pv 0) T.cl m2 G2 hr b2 .nil (L2N.passes_call (L2N.takes_of rfl rfl rfl rfl) (fun _ _ _ _ h => h)) (by exact (pa_cons pe_str pa_nil))))))))), ?_⟩)
  · unfold spName at h
    obtain ⟨_, _, _, _, _, _, _, _, _, _, _, rfl, _⟩ := h
    rfl
  unfold spName at h
  obtain ⟨a, dx, ag, an, ab, g, ts, ks, M, F0, st, rfl, h, hQ⟩ := h
  refine ⟨_, rfl, a, C, dx, _, _, rfl, h.rd.1, T.cl, T.nP, rF_place, ?_⟩
  refine ⟨_, rfl, a, dx, _, rfl, h.rd.1, rF_no (by decide +kernel), ?_⟩
  refine take_use h.rd ?_
  cases hd : g[st.p]? with
  | none =>
    have e : nameStep g st = .error ⟨1, st.p⟩ := by unfold nameStep; rw [drop_none hd]; rfl
    rw [e] at hQ
    rw [takeE_end hd]
    exact hQ
  | some d =>
    have hlt := lt_of_some hd
    cases hs : PatUtf.isSmall d with
    | false =>
      have e : nameStep g st = .error ⟨2, st.p⟩ := by
        unfold nameStep Mach.nameP
        rw [drop_cons hd]
        dsimp only
        rw [if_pos hs]
      rw [e] at hQ
      rw [takeE_no hd (by rw [at_small]; exact hs)]
      exact hQ
    | true =>
      rw [takeE_yes hd (by rw [at_small]; exact hs)]
      intro H1 r1 k1
      have h1 := h.go r1 k1 (by omega) (Nat.le_succ _)
      refine ⟨fun m σ H' => ∃ q, m = g.length - q ∧ σ = [some (.ref a), some (.int (st.p : Nat))] ∧ RS K C CB cs H' a dx ag an ab g ts ks M F0 { st with p := q, b := g.drop q } ∧ st.p < q ∧ ((g.drop st.p).takeWhile PatUtf.inName).length = q - st.p + ((g.drop q).takeWhile PatUtf.inName).length,
        ⟨_, st.p + 1, rfl, rfl, h1, by omega, ?_⟩, ?_⟩
      · rw [drop_cons hd, List.takeWhile_cons, if_pos (small_name hs), List.length_cons]
        omega
      rintro m σ H5 ⟨q, rfl, rfl, h5, hpq, hl⟩
      refine ⟨_, rfl, a, dx, _, rfl, h5.rd.1, rF_no (by decide +kernel), ?_⟩
      refine at_use h5.rd (by decide +kernel) fun H6 s6 => ?_
      have h6 := h5.same s6
      refine ⟨_, rfl, ?_⟩
      cases ea : isAt g q zName with
      | true =>
        obtain ⟨x, hx, hxn⟩ : ∃ x, g[q]? = some x ∧ PatUtf.inName x = true := by
          cases e : g[q]? with
          | none => rw [isAt_none e] at ea; cases ea
          | some x => rw [isAt_some e, at_name] at ea; exact ⟨x, rfl, ea⟩
        have hlq := lt_of_some hx
        refine if_true_of rfl ⟨fun σ' H' => σ' = [some (.ref a), some (.int (st.p : Nat))] ∧ RS K C CB cs H' a dx ag an ab g ts ks M F0 { st with p := q + 1, b := g.drop (q + 1) }, ?_, ?_⟩
        · rintro σ' H' ⟨rfl, h7⟩
          refine ⟨g.length - (q + 1), by omega, q + 1, rfl, rfl, h7, by omega, ?_⟩
          rw [hl, drop_cons hx, List.takeWhile_cons, if_pos hxn, List.length_cons]
          omega
        · refine ⟨_, rfl, a, dx, _, rfl, h6.rd.1, rF_no (by decide +kernel), ?_⟩
          refine take_use h6.rd ?_
          rw [takeE_yes hx (by rw [at_name]; exact hxn)]
          intro H7 r7 k7
          exact ⟨rfl, h6.go r7 k7 (by show q + 1 ≤ g.length; omega) (by show q ≤ q + 1; omega)⟩
      | false =>
        refine if_false_of rfl ?_
        have et : (g.drop q).takeWhile PatUtf.inName = [] := by
          cases e : g[q]? with
          | none => rw [drop_none e]; rfl
          | some x =>
            rw [isAt_some e, at_name] at ea
            rw [drop_cons e, List.takeWhile_cons, ea]
            rfl
        rw [et] at hl
        have hl' : ((g.drop st.p).takeWhile PatUtf.inName).length = q - st.p := hl
        have hql : q ≤ g.length := h6.rd.2.2.1
        rw [name_rest hd hs hpq hql hl'] at hQ
        refine ⟨_, rfl, a, dx, _, rfl, h6.rd.1, rF_no (by decide +kernel), ?_⟩
        refine need_use h6.rd (fun c1 => ?_) (fun c1 => ?_)
        · have c1' : q = g.length := c1
          rw [if_pos c1'] at hQ
          exact hQ
        · have c1' : q < g.length := c1
          rw [if_neg (by omega)] at hQ
          refine ⟨_, rfl, a, dx, _, rfl, h6.rd.1, rF_no (by decide +kernel), _, rfl, ?_⟩
          refine keep_use h6 (by show st.p ≤ q; omega) ?_
          cases ek : keepStep g { st with p := q, b := g.drop q } st.p with
          | error e => rw [ek] at hQ; exact hQ
          | ok st' =>
            rw [ek] at hQ
            dsimp only at hQ
            have est : st'.p = q ∧ st'.frs = st.frs := by
              unfold keepStep at ek
              split at ek
              · cases ek
              · cases ek; exact ⟨rfl, rfl⟩
            intro H7 ts7 ks7 M7 F7 h7 s7
            refine ⟨_, rfl, a, dx, _, rfl, h7.rd.1, rF_no (by decide +kernel), ?_⟩
            refine take_use h7.rd ?_
            rw [est.1]
            have hx : g[q]? = some g[q] := List.getElem?_eq_getElem c1'
            rw [hx] at hQ
            dsimp only at hQ
            by_cases c3 : g[q] = 32
            · rw [if_neg (fun x => x c3)] at hQ
              rw [takeE_yes hx (by rw [c3]; decide +kernel)]
              intro H8 r8 k8
              exact hQ H8 ts7 ks7 M7 F7 (h7.go r8 k8 (by omega) (by rw [est.1]; omega)) s7
            · rw [if_pos c3] at hQ
              rw [takeE_no hx (by rw [at_sign (n := 32) (by decide +kernel)]; exact decide_eq_false c3)]
              exact hQ
end
end Pat
end

section
namespace Pat
open PySem PySem.Spec PyProof.Rows L2
open PySem.FaultX (FaultTxt)
open PatUtf (Fault)
open PatWords (Pat repP timesP partsP oneP atomP valueP Name)
open Mach (Fr)
open Ways (WF FwdW FitsW FitAll oneWF seqsWF altsWF repWF capWF)
theorem partsP_drop {g : List UInt8} : ∀ (f : Nat) (s : Bool) (acc : List (Nat × Nat)) (p : Nat) {l : List (Nat × Nat)} {r : List UInt8} {q : Nat}, partsP f s acc p (g.drop p) = .ok (l, r, q) → r = g.drop q ∧ q ≤ g.length
  | 0, s, acc, p, l, r, q, h => by
    rw [partsP] at h
    cases h
  | f + 1, s, acc, p, l, r, q, h => by
    by_cases c93 : g[p]? = some 93
    · have := lt_of_some c93
      rw [drop_cons c93, partsP] at h
      dsimp only at h
      rw [if_pos rfl] at h
      split at h
      · cases h; exact ⟨rfl, by omega⟩
      · cases h
    · have pp := parts_part (f := f) (s := s) (acc := acc) (g := g) (p := p) (fun c hc e => c93 (by rw [hc, e]))
      cases ep : partE g p with
      | error e =>
        rw [ep] at pp
        dsimp only at pp
        rw [pp] at h
        cases h
      | ok y =>
        obtain ⟨l0, q1⟩ := y
        rw [ep] at pp
        obtain ⟨l', _, pp⟩ := pp
        rw [pp] at h
        exact partsP_drop f true (acc ++ l') q1 h
theorem atom1_facts {g : List UInt8} {p q : Nat} {c : UInt8} {a : Pat} {ns : List (Nat × Name)} {s : List UInt8} (hc : g[p]? = some c) (h1 : c ≠ 40) (h2 : c ≠ 60) (h : atomP 1 0 [] p (g.drop p) = .ok (a, ns, s, q)) : a.size = 1 ∧ s = g.drop q ∧ q ≤ g.length := by
  have hlt := lt_of_some hc
  rw [drop_cons hc, atomP.eq_def 1] at h
  simp only [h1, h2, if_false] at h
  split at h; · cases h; exact ⟨rfl, rfl, by omega⟩
  split at h; · cases h; exact ⟨rfl, rfl, by omega⟩
  split at h; · cases h; exact ⟨rfl, rfl, by omega⟩
  split at h
  · cases hd : g[p + 1]? with
    | none => rw [drop_none hd] at h; cases h
    | some d =>
      have := lt_of_some hd
      rw [drop_cons hd] at h
      dsimp only at h
      split at h; · cases h; exact ⟨rfl, rfl, by omega⟩
      split at h; · cases h; exact ⟨rfl, rfl, by omega⟩
      split at h
      · cases h; exact ⟨rfl, rfl, by omega⟩
      · cases h
  split at h
  · cases hd : g[p + 1]? with
    | none => rw [drop_none hd] at h; cases h
    | some d =>
      rw [drop_cons hd] at h
      dsimp only at h
      split at h
      · rw [show p + 1 + 1 = p + 2 from rfl] at h
        cases e : partsP ((c :: d :: g.drop (p + 2)).length + 1) false [] (p + 2) (g.drop (p + 2)) with
        | error x => rw [e] at h; cases h
        | ok y =>
          obtain ⟨l, r, q'⟩ := y
          rw [e] at h
          cases h
          exact ⟨rfl, partsP_drop _ _ _ _ e⟩
      · rw [← drop_cons hd] at h
        cases e : partsP ((c :: g.drop (p + 1)).length + 1) false [] (p + 1) (g.drop (p + 1)) with
        | error x => rw [e] at h; cases h
        | ok y =>
          obtain ⟨l, r, q'⟩ := y
          rw [e] at h
          cases h
          exact ⟨rfl, partsP_drop _ _ _ _ e⟩
  split at h
  · cases h
  · rw [← drop_cons hc] at h
    cases e : valueP p (g.drop p) with
    | error x => rw [e] at h; cases h
    | ok y =>
      obtain ⟨v, r, q'⟩ := y
      rw [e] at h
      cases h
      obtain ⟨_, h3, h4⟩ := valueP_drop e
      exact ⟨rfl, h4, h3⟩
theorem nameP_drop {g : List UInt8} {ns : List (Nat × Name)} {p q : Nat} {n : Name} {s : List UInt8} (h : Mach.nameP ns p (g.drop p) = .ok (n, s, q)) : s = g.drop q := by
  unfold Mach.nameP at h
  cases hd : g[p]? with
  | none => rw [drop_none hd] at h; cases h
  | some d =>
    rw [drop_cons hd] at h
    dsimp only at h
    rw [← drop_cons hd] at h
    split at h; · cases h
    split at h; · cases h
    split at h; · cases h
    rw [List.drop_drop] at h
    cases he : g[p + ((g.drop p).takeWhile PatUtf.inName).length]? with
    | none => rw [drop_none he] at h; cases h
    | some e =>
      rw [drop_cons he] at h
      dsimp only at h
      split at h
      · cases h
      · cases h
        rw [show p + 1 + ((g.drop p).takeWhile PatUtf.inName).length = p + ((g.drop p).takeWhile PatUtf.inName).length + 1 by omega]
def openStep (g : List UInt8) (st : Mach.St) (frs : List Fr) (c : UInt8) : Except Fault Mach.St := if PatWords.OPENED ≤ frs.length then .error ⟨5, st.p⟩ else
  if c = 40 then .ok ⟨st.p + 1, g.drop (st.p + 1), st.ns, Mach.fresh [41] none :: st.frs⟩ else match Mach.nameP st.ns (st.p + 1) (g.drop (st.p + 1)) with
    | .error e => .error e
    | .ok (n, _, q) => .ok ⟨q, g.drop q, st.ns ++ [(st.p + 1, n)], Mach.fresh [62] (some n) :: st.frs⟩
section
variable {P : Program} {w : World} {K : PySem.W.Frag} {mg : Str → Option Value} {base : Heap} {C CB CF fI : Addr} {cs : Cs} {H H1 H2 H3 H4 : Hp} {a dx ag an ab : Addr} {g : List UInt8} {ts : List Addr} {ks : List Bk} {M : PM} {F0 : Hp} {st : Mach.St} {Q : VK} {E : XK}
theorem at_open (c : UInt8) : (cds "(<").contains c.toNat = (decide (c = 40) || decide (c = 60)) :=
  beq_iff_eq.mp (u8_all (p := fun c => (cds "(<").contains c.toNat == (decide (c = 40) || decide (c = 60))) (by decide +kernel) c)
theorem at_shut (c : UInt8) : (cds ")>").contains c.toNat = (decide (c = 41) || decide (c = 62)) :=
  beq_iff_eq.mp (u8_all (p := fun c => (cds ")>").contains c.toNat == (decide (c = 41) || decide (c = 62))) (by decide +kernel) c)
theorem at_rep (c : UInt8) : (cds "*+?{").contains c.toNat = Mach.isRep c :=
  beq_iff_eq.mp (u8_all (p := fun c => (cds "*+?{").contains c.toNat == Mach.isRep c) (by decide +kernel) c)
/-- Bracket(closing, number) -/
theorem binit_use {b dxb : Addr} {z : Str} {num : V} (hb : H b = some (.ins CB dxb [])) (r : ∀ H' ar al, BAt CB H' b dxb z num ar 0 none → H ar = none → H al = none → ar ≠ al → H' ar = some (.lst [.ref al]) → H' al = some (.lst []) → Kept H H' b → Q .non H') : spBInit CB [.ref b, .str z, num] H Q E := by
  unfold spBInit
  exact ⟨b, dxb, z, num, rfl, hb, r⟩
/-- a bracket is opened -/
theorem RS.opened (h : RS K C CB cs H a dx ag an ab g ts ks M F0 st) (hne : st.frs ≠ []) {x dxx ar al : Addr} {z : Str} {num : V} {fr : Fr} (hx : H x = none) (har : H ar = none) (hal : H al = none) (hxa : x ≠ ar) (hxl : x ≠ al) (hal2 : ar ≠ al) (s : Same H H1)
    (hb : BAt CB H1 x dxx z num ar 0 none) (h1 : H1 ar = some (.lst [.ref al])) (h2 : H1 al = some (.lst [])) (ez : fclose fr = z) (e1 : fr.rows = []) (e2 : fr.items = []) (e3 : fr.last = false) (hn : nameV (nmsOf st) num fr.name) (hc : fr.close.length ≤ 1) (hfl : st.frs.length < 41) (hpl : st.frs.length < st.p + 1) :
    RS K C CB cs (upd H1 ab (.lst ((ks.map Bk.b).reverse.map V.ref ++ [V.ref x]))) a dx ag an ab g ts (⟨x, dxx, ar, num, [(al, [])]⟩ :: ks) M F0 { st with frs := fr :: st.frs } := by
  have h1' := h.same s
  have fresh : ∀ y ∈ (⟨x, dxx, ar, num, [(al, [])]⟩ : Bk).foot, H y = none := fun y m => by
    have m : y ∈ [x, ar, al] := m
    simp only [List.mem_cons, List.not_mem_nil, or_false] at m
    rcases m with e | e | e
    · rw [e]; exact hx
    · rw [e]; exact har
    · rw [e]; exact hal
  have e5 : (ks.map Bk.b).reverse.map V.ref ++ [V.ref x] = ((((⟨x, dxx, ar, num, [(al, [])]⟩ : Bk) :: ks).map Bk.b).reverse.map V.ref) := by
    rw [List.map_cons, List.reverse_cons, List.map_append]
    rfl
  rw [e5]
  have es : fsize fr = 0 := by
    unfold fsize
    rw [e1, e2]
    rfl
  have el : flast fr = none := by
    unfold flast
    rw [e3]
    rfl
  refine h1'.pile (frs' := fr :: st.frs) ⟨?_, h1'.sk⟩ hfl hpl ?_ ?_ ?_
  · exact {
      at_ := by rw [ez, es, el]; exact hb
      arl := h1
      rws := fun r m => by rw [List.mem_singleton.mp m]; exact h2
      fit := ⟨[], by rw [e2]; exact ⟨trivial, trivial⟩, e1⟩
      num := hn
      last := fun e => by rw [e3] at e; cases e
      clo := hc
      out := fun e => by
        cases e6 : st.frs with
        | nil => exact absurd e6 hne
        | cons _ _ => rw [e6] at e; cases e
      rlen := by show 1 ≤ _; omega
      ilen := fun r m => by rw [List.mem_singleton.mp m]; exact Nat.zero_le _ }
  · intro y m m2
    rw [foots_cons] at m2
    rcases List.mem_append.mp m2 with m2 | m2
    · exact (h.mut y (List.mem_append_left _ m)).1 (fresh y m2)
    · exact h.n2 y m m2
  · refine ⟨?_, fun y m m2 => ?_, h.n3⟩
    · show [x, ar, al].Nodup
      simp [hxa, hxl, hal2]
    · exact Stk.there h.sk y m2 (fresh y m)
  · intro y m
    rw [foots_cons] at m
    rcases List.mem_append.mp m with m | m
    · exact none_same h.fz (fresh y m)
    · exact h.fm y (List.mem_append_right _ m)
/-! ### take_opening -/
@[irreducible] def spOpen (K : PySem.W.Frag) (C CB CF : Addr) (cs : Cs) : Sp := fun vs H Q E => ∃ (a dx ag an ab : Addr) (g : List UInt8) (ts : List Addr) (ks : List Bk) (M : PM) (F : Hp) (st : Mach.St) (fr : Fr) (frs : List Fr) (c : UInt8), vs = [.ref a] ∧ RS K C CB cs H a dx ag an ab g ts ks M F st ∧ st.frs = fr :: frs ∧
  g[st.p]? = some c ∧ (c = 40 ∨ c = 60) ∧ StepRet K C CB CF cs a dx ag an ab g F Q E (openStep g st frs c)
theorem open_use {fr : Fr} {frs : List Fr} {c : UInt8} (h : RS K C CB cs H a dx ag an ab g ts ks M F0 st) (hf : st.frs = fr :: frs) (hc : g[st.p]? = some c) (ho : c = 40 ∨ c = 60) (r : StepRet K C CB CF cs a dx ag an ab g F0 Q E (openStep g st frs c)) : spOpen K C CB CF cs [.ref a] H Q E := by
  unfold spOpen
  exact ⟨a, dx, ag, an, ab, g, ts, ks, M, F0, st, fr, frs, c, rfl, h, hf, hc, ho, r⟩
theorem nameP_up {g : List UInt8} {ns : List (Nat × Name)} {p q : Nat} {n : Name} {s : List UInt8} (h : Mach.nameP ns p (g.drop p) = .ok (n, s, q)) : p < q := by
  unfold Mach.nameP at h
  cases hd : g[p]? with
  | none => rw [drop_none hd] at h; cases h
  | some d =>
    rw [drop_cons hd] at h
    dsimp only at h
    split at h; · cases h
    split at h; · cases h
    split at h; · cases h
    split at h
    · cases h
    · split at h
      · cases h
      · cases h; omega
theorem scOpen : FnScope ["self"] ["self"] (defScope (sR 17)) := ⟨rfl, rfl, rfl, by decide +kernel, rfl, by decide +kernel, by decide +kernel⟩
theorem ok_open {f : Addr} {fd : FuncData} (F : Fun K "take_opening" "Reader.take_opening" (sR 17) f fd) (T : Txt K mg C CF fI) (k40 : ∃ t, mg "MOST_OPEN" = some (.int 40 t)) (k5 : ∃ t, mg "TOO_MANY_OPEN" = some (.int 5 t))
    (NB : NOk P w K mg base CB 1 "Bracket" ["self", "closing", "number"] (spBInit CB))
    (M1 : MOk P w K mg base (L2N.CX P w) C 3 "take" ["self", "signs"] (spTake K C CF)) (M2 : MOk P w K mg base (L2N.CX P w) C 4 "take_name" ["self"] (spName K C CB CF cs)) :
    FnOk P w K mg base (L2N.CX P w) 5 f fd ["self"] (spOpen K C CB CF cs) := by
  obtain ⟨f1, fd1, m1, b1, G1⟩ := M1
  obtain ⟨f2, fd2, m2, b2, G2⟩ := M2
  obtain ⟨fB, fdB, MB, gB, bB, GB⟩ := NB
  refine F.okN scOpen (fun vs H Q E h => ?_) (fun cdv A outer s H vs Q E hr h => ⟨_, pss_cons (ps_if (pt_cmpR op_eq (pe_op op_sub (pe_callB call_len_seq (by rfl) T.len PySem.boot_len (pa_cons (pe_fld (pv 0) rfl) pa_nil)) pe_int) (pe_gi k40) (nomark _))
        (pss_one (ps_raiseFault rfl T.ft hr (L2N.takes_of rfl rfl rfl rfl) (by exact (pa_cons (pe_gi k5) (pa_cons (pe_fld (pv 0) rfl) pa_nil))))) pss_nil)
      (pss_cons (ps_if (pt_cmpR op_eq (pe_meth (pv 0) T.cl m1 G1 (hr.mono (by decide)) b1 .nil (L2N.passes_call (L2N.takes_of rfl rfl rfl rfl) (fun _ _ _ _ h => h)) (by exact (pa_cons pe_str pa_nil))) pe_str (nomark _))
        (pss_cons (ps_expr (pe_bm PySem.F.plainAttrs_list PySem.F.slot_list_append PySem.F.type_list_append mt_append (pe_fld (pv 0) rfl) (by exact (pa_cons (pe_make MB GB (hr.mono (by decide)) rfl gB bB .nil pass0 (by exact (pa_cons pe_str (pa_cons pe_non pa_nil)))) pa_nil)))) (pss_one ps_retN)) pss_nil)
      (pss_cons (ps_expr (pe_meth0 (pv 0) T.cl m2 G2 hr b2 .nil (L2N.passes_call (L2N.takes_of rfl rfl rfl rfl) (fun _ _ _ _ h => h))))
      (pss_one (ps_expr (pe_bm PySem.F.plainAttrs_list PySem.F.slot_list_append PySem.F.type_list_append mt_append (pe_fld (pv 0) rfl) (by exact (pa_cons (pe_make MB GB (hr.mono (by decide)) rfl gB bB .nil pass0 (by exact (pa_cons pe_str (pa_cons (pe_op op_sub (pe_callB call_len_seq (by rfl) T.len PySem.boot_len (pa_cons (pe_fld (pv 0) rfl) pa_nil)) pe_int) pa_nil)))) pa_nil))))))), ?_⟩)
  · unfold spOpen at h
    obtain ⟨_, _, _, _, _, _, _, _, _, _, _, _, _, _, rfl, _⟩ := h
    rfl
  unfold spOpen at h
  obtain ⟨a, dx, ag, an, ab, g, ts, ks, M, F0, st, fr, frs, c, rfl, h, hf, hc, ho, hQ⟩ := h
  have hlt := lt_of_some hc
  have hbl := Stk.len h.sk
  have hfl := h.flen
  have hpl := h.plen
  rw [hf, List.length_cons] at hbl hfl hpl
  have hbl2 : ((((ks.map Bk.b).reverse.map V.ref).length : Nat) : Int) = (frs.length : Int) + 1 := by
    rw [List.length_map, List.length_reverse, List.length_map, hbl]
    rfl
  unfold openStep at hQ
  refine ⟨_, rfl, a, C, dx, _, _, rfl, h.rd.1, T.cl, T.nB, rF_brackets, ab, _, rfl, .inl (SqL.of h.bl), _, _, rfl, rfl, rfl, _, rfl, ?_⟩
  rw [hbl2]
  by_cases c40 : frs.length = 40
  · rw [if_pos (by unfold PatWords.OPENED; omega)] at hQ
    have hQ' : Out CF ⟨5, st.p⟩ E := hQ
    refine if_true_of ?_ ⟨_, rfl, a, C, dx, _, _, rfl, h.rd.1, T.cl, T.nP, rF_place, _, _, rfl, fun d hd => hQ' d _ upd_same⟩
    rw [c40]
    rfl
  · rw [if_neg (by unfold PatWords.OPENED; omega)] at hQ
    refine if_false_of (decide_eq_false fun e => c40 ?_) ?_
    · injection e with e
      omega
    refine ⟨_, rfl, a, dx, _, rfl, h.rd.1, rF_no (by decide +kernel), ?_⟩
    refine take_use h.rd ?_
    rw [takeE_yes hc (by rw [at_open]; rcases ho with e | e <;> subst e <;> rfl)]
    intro H1 r1 k1
    have h1 := h.go r1 k1 (by omega) (Nat.le_succ _)
    -- the new bracket
    have tail : ∀ (z : Str) (num : V) (fr' : Fr) (H3 : Hp) (ts3 : List Addr) (ks3 : List Bk) (M3 : PM) (F3 : Hp) (st3 : Mach.St) (W : Hp → Prop), RS K C CB cs H3 a dx ag an ab g ts3 ks3 M3 F3 st3 → Same F0 F3 → st3.frs = st.frs → st.p < st3.p → fclose fr' = z → fr'.rows = [] → fr'.items = [] → fr'.last = false → nameV (nmsOf st3) num fr'.name → fr'.close.length ≤ 1 →
        (∀ H' ts' ks' M' F', RS K C CB cs H' a dx ag an ab g ts' ks' M' F' { st3 with frs := fr' :: st.frs } → Same F0 F' → W H') →
        ∀ x dxx, H3 x = none → H3 dxx = none → dxx ≠ x → spBInit CB [.ref x, .str z, num] (upd (upd H3 dxx (.own x)) x (.ins CB dxx [])) (fun v H2 => v = .non ∧ ∃ l xs y, V.ref ab = V.ref l ∧ [V.ref x] = [y] ∧ H2 l = some (.lst xs) ∧ xs.length < sizeLine ∧ W (upd H2 l (.lst (xs ++ [y])))) E0 := by
      intro z num fr' H3 ts3 ks3 M3 F3 st3 W h3 sF3 ef hp3 ez e1 e2 e3 hn hc3 hQ3 x dxx hx hdx hne
      refine binit_use upd_same fun H4 ar al hb4 har hal hra h4r h4l k4 => ⟨rfl, ?_⟩
      have s4 := made_same hx hdx k4
      have hxr : x ≠ ar := fun e => by rw [← e, upd_same] at har; cases har
      have hxl : x ≠ al := fun e => by rw [← e, upd_same] at hal; cases hal
      have none3 : ∀ y, upd (upd H3 dxx (.own x)) x (.ins CB dxx []) y = none → y ≠ x → H3 y = none := fun y e n => by
        rw [upd_ne n] at e
        by_cases ed : y = dxx
        · rw [ed, upd_same] at e
          cases e
        · rw [upd_ne ed] at e
          exact e
      have hbl3 := Stk.len h3.sk
      rw [ef, hf, List.length_cons] at hbl3
      refine ⟨ab, _, _, rfl, rfl, s4 _ _ h3.bl, ?_, ?_⟩
      · rw [List.length_map, List.length_reverse, List.length_map, hbl3]
        exact small1000 (by omega)
      · have hop := h3.opened (by rw [ef, hf]; exact List.cons_ne_nil _ _) (fr := fr') hx (none3 ar har hxr.symm) (none3 al hal hxl.symm) hxr hxl hra s4 hb4 h4r h4l ez e1 e2 e3 hn hc3 (by rw [ef, hf, List.length_cons]; omega) (by rw [ef, hf, List.length_cons]; omega)
        rw [ef] at hop
        exact hQ3 _ _ _ _ _ hop sF3
    rcases ho with e | e
    · subst e
      rw [if_pos rfl] at hQ
      refine ⟨rfl, _, rfl, if_true_of (by decide +kernel) ?_⟩
      refine ⟨_, rfl, a, C, dx, _, _, rfl, h1.rd.1, T.cl, T.nB, rF_brackets, .inl ⟨rfl, _, SqL.of h1.bl⟩, ?_⟩
      exact tail ")" .non (Mach.fresh [41] none) H1 ts ks M F0 _ (fun H' => Q .non H') h1 (fun _ _ h => h) rfl (Nat.lt_succ_self _) (by decide +kernel) rfl rfl rfl rfl (by decide) hQ
    · subst e
      rw [if_neg (by decide)] at hQ
      refine ⟨rfl, _, rfl, if_false_of (by decide +kernel) ?_⟩
      refine ⟨_, rfl, a, dx, _, rfl, h1.rd.1, rF_no (by decide +kernel), ?_⟩
      refine name_use h1 ?_
      unfold nameStep
      dsimp only
      cases en : Mach.nameP st.ns (st.p + 1) (g.drop (st.p + 1)) with
      | error x => rw [en] at hQ; exact hQ
      | ok y =>
        obtain ⟨n, s, q⟩ := y
        have hup := nameP_up en
        rw [en] at hQ
        intro H2 ts2 ks2 M2 F2 h2 sF2
        refine ⟨_, rfl, a, C, dx, _, _, rfl, h2.rd.1, T.cl, T.nB, rF_brackets, .inl ⟨rfl, _, SqL.of h2.bl⟩, ?_⟩
        refine ⟨_, rfl, a, C, dx, _, _, rfl, h2.rd.1, T.cl, T.nN, rF_names, an, _, rfl, .inl (SqL.of h2.nl), _, _, rfl, rfl, ?_⟩
        have etl : ((((ts2.map V.ref).length : Nat) : Int) - 1) = ((st.ns.length : Nat) : Int) := by
          rw [List.length_map, Nms.len h2.nm]
          show (((st.ns ++ [(st.p + 1, n)]).length : Nat) : Int) - 1 = _
          rw [List.length_append, List.length_singleton]
          push_cast
          omega
        refine tail ">" (.int ((((ts2.map V.ref).length : Nat) : Int) - 1)) (Mach.fresh [62] (some n)) H2 ts2 ks2 M2 F2 _ (fun H' => Q .non H') h2 sF2 rfl (by show st.p < q; omega) (by show (⟨(([62] : List UInt8).map (·.toNat)).toArray⟩ : Str) = ">"; decide +kernel) rfl rfl rfl ⟨st.ns.length, congrArg V.int etl, ?_⟩ (Nat.le_refl 1) hQ
        show ((st.ns ++ [(st.p + 1, n)]).map (·.2))[st.ns.length]? = some n
        rw [List.map_append, List.getElem?_append_right (by rw [List.length_map]; exact Nat.le_refl _), List.length_map, Nat.sub_self]
        rfl
end
end Pat
end

section
namespace Pat
open PySem PySem.Spec PyProof.Rows L2
open PySem.FaultX (FaultTxt)
open PatUtf (Fault)
open PatWords (Pat repP timesP partsP oneP atomP valueP Name)
open Mach (Fr)
open Ways (WF FwdW FitsW FitAll oneWF seqsWF altsWF repWF capWF)
section
variable {P : Program} {w : World} {K : PySem.W.Frag} {mg : Str → Option Value} {base : Heap} {C CB CF fI : Addr} {cs : Cs} {H H1 : Hp} {a dx ag an ab : Addr} {g : List UInt8} {ts : List Addr} {ks : List Bk} {M : PM} {F0 : Hp} {st : Mach.St} {Q : VK} {E : XK}
/-! ### take_next -/
@[irreducible] def spNext (K : PySem.W.Frag) (C CB CF : Addr) (cs : Cs) : Sp := fun vs H Q E => ∃ (a dx ag an ab : Addr) (g : List UInt8) (ts : List Addr) (ks : List Bk) (M : PM) (F : Hp) (st : Mach.St) (fr : Fr) (frs : List Fr) (c : UInt8), vs = [.ref a] ∧ RS K C CB cs H a dx ag an ab g ts ks M F st ∧ st.frs = fr :: frs ∧
  g[st.p]? = some c ∧ StepRet K C CB CF cs a dx ag an ab g F Q E (Mach.stepC st.p st.ns fr frs c (g.drop (st.p + 1)))
theorem next_use {fr : Fr} {frs : List Fr} {c : UInt8} (h : RS K C CB cs H a dx ag an ab g ts ks M F0 st) (hf : st.frs = fr :: frs) (hc : g[st.p]? = some c) (r : StepRet K C CB CF cs a dx ag an ab g F0 Q E (Mach.stepC st.p st.ns fr frs c (g.drop (st.p + 1)))) : spNext K C CB CF cs [.ref a] H Q E := by
  unfold spNext
  exact ⟨a, dx, ag, an, ab, g, ts, ks, M, F0, st, fr, frs, c, rfl, h, hf, hc, r⟩
theorem step_open {g : List UInt8} {st : Mach.St} {fr : Fr} {frs : List Fr} {c : UInt8} (hf : st.frs = fr :: frs) (h : c = 40 ∨ c = 60) : Mach.stepC st.p st.ns fr frs c (g.drop (st.p + 1)) = openStep g st frs c := by
  unfold Mach.stepC openStep
  rw [hf]
  rcases h with e | e
  · subst e
    rw [if_neg (by decide), if_pos rfl, if_pos rfl]
  · subst e
    rw [if_neg (by decide), if_neg (by decide), if_pos rfl]
    by_cases c1 : PatWords.OPENED ≤ frs.length
    · rw [if_pos c1, if_pos c1]
    · rw [if_neg c1, if_neg c1, if_neg (by decide)]
      cases e : Mach.nameP st.ns (st.p + 1) (g.drop (st.p + 1)) with
      | error x => rfl
      | ok y =>
        obtain ⟨n, s, q⟩ := y
        rw [nameP_drop e]
theorem step_close {g : List UInt8} {st : Mach.St} {fr : Fr} {frs : List Fr} {c : UInt8} (h : c = 41 ∨ c = 62) : Mach.stepC st.p st.ns fr frs c (g.drop (st.p + 1)) = closeStep st g fr frs c := by
  unfold Mach.stepC closeStep
  rcases h with e | e <;> subst e <;> rfl
theorem step_rep {g : List UInt8} {st : Mach.St} {fr : Fr} {frs : List Fr} {c : UInt8} (hc : g[st.p]? = some c) (h : Mach.isRep c = true) : Mach.stepC st.p st.ns fr frs c (g.drop (st.p + 1)) = repStep g st fr frs := by
  obtain ⟨n1, n2, n3, n4, n5⟩ := Mach.isRep_ne h
  unfold Mach.stepC repStep
  rw [drop_cons hc]
  simp only [n1, n2, n3, n4, n5, h, if_false, if_true, or_self]
  all_goals rfl
/-- a row is ended -/
theorem RS.barred {k : Bk} {fr : Fr} {frs : List Fr} (h : RS K C CB cs H a dx ag an ab g ts (k :: ks) M F0 st) (hf : st.frs = fr :: frs) {al : Addr} (hal : H al = none) (h1 : H1 al = some (.lst [])) (h2 : H1 k.ar = some (.lst ((k.rows.map fun r : Addr × List Addr => V.ref r.1) ++ [V.ref al])))
    (hb : BAt CB H1 k.b k.dx (fclose fr) k.num k.ar ((fsize fr : Nat) : Int) none) (hk : KeptL H H1 [k.b, k.ar]) (hlen : k.rows.length + 1 ≤ st.p + 1) :
    RS K C CB cs H1 a dx ag an ab g ts ({ k with rows := k.rows ++ [(al, [])] } :: ks) M F0 { st with frs := fr.bar :: frs } := by
  have sk := h.sk
  rw [hf] at sk
  obtain ⟨hbr, hs⟩ := sk
  have hnd := h.n3.1
  have hfoot : ({ k with rows := k.rows ++ [(al, [])] } : Bk).foot = k.foot ++ [al] := by
    unfold Bk.foot
    rw [List.map_append]
    rfl
  have haf : al ∉ k.foot := fun m => hbr.there al m hal
  have kf : KeptL H H1 k.foot := fun y o e n => hk y o e fun m => n (by
    rcases List.mem_cons.mp m with m | m
    · rw [m]; exact List.mem_cons_self ..
    · rw [List.mem_singleton.mp m]; exact List.mem_cons_of_mem _ (List.mem_cons_self ..))
  obtain ⟨rss, hfit, hrows⟩ := hbr.fit
  refine RS.top h hf (k1 := { k with rows := k.rows ++ [(al, [])] }) kf rfl ?_ ?_ ?_
  · exact {
      at_ := by rw [bar_size, bar_last]; exact hb
      arl := by
        show H1 k.ar = some (.lst ((k.rows ++ [(al, [])]).map fun r : Addr × List Addr => V.ref r.1))
        rw [h2, List.map_append]
        rfl
      rws := fun r m => by
        rcases List.mem_append.mp m with m | m
        · have h1 := hbr.rws r m
          refine hk _ _ h1 ?_
          have hm : r.1 ∈ k.rows.map (·.1) := List.mem_map.mpr ⟨r, m, rfl⟩
          obtain ⟨n1, n2⟩ := List.nodup_cons.mp hnd
          obtain ⟨n3, n4⟩ := List.nodup_cons.mp n2
          have e1 : r.1 ≠ k.b := fun e => n1 (by rw [← e]; exact List.mem_cons_of_mem _ hm)
          have e2 : r.1 ≠ k.ar := fun e => n3 (by rw [← e]; exact hm)
          simp [e1, e2]
        · rw [List.mem_singleton.mp m]
          exact h1
      fit := ⟨rss ++ [fr.items], RowsFit.snoc (bs := []) (ps := []) trivial hfit, by
        show fr.rows ++ [Mach.seqs fr.items] = _
        rw [hrows, List.map_append]
        rfl⟩
      num := hbr.num
      last := fun e => nomatch e
      clo := hbr.clo
      out := hbr.out
      rlen := by
        show (k.rows ++ [(al, [])]).length ≤ st.p + 1
        rw [List.length_append]
        exact hlen
      ilen := fun r m => by
        rcases List.mem_append.mp m with m | m
        · exact hbr.ilen r m
        · rw [List.mem_singleton.mp m]
          exact Nat.zero_le _ }
  · rw [hfoot]
    exact List.nodup_append.mpr ⟨hnd, by simp, fun x m y m2 e => haf (by rw [← List.mem_singleton.mp m2, ← e]; exact m)⟩
  · intro x m
    rw [hfoot] at m
    rcases List.mem_append.mp m with m | m
    · exact .inl m
    · rw [List.mem_singleton.mp m]
      exact .inr hal
/-- an atom that was made is frozen, and put behind the others -/
theorem RS.atom (h : RS K C CB cs H a dx ag an ab g ts ks M F0 st) {v : V} {atm : Atm} {x : Pat} {D : Nat} (hn : AtmNew K cs H H1 v atm) (hx : AtmFits atm x) (hk : Kept H H1 a) {q : Nat} (r : RAt C H1 a dx ag q an ab) (hq : q ≤ g.length) (hpq : st.p ≤ q) (hD : 1 ≤ D) :
    ∃ b M1 F1, v = .ref b ∧ RS K C CB cs H1 a dx ag an ab g ts ks M1 F1 { st with p := q, b := g.drop q } ∧ Same F0 F1 ∧ Fits M1 b x D := by
  have h1 := h.go r hk hq hpq
  have mut' : ∀ y ∈ [a, an, ab] ++ foots ks, ∀ S : List Addr, (∀ z ∈ S, H z = none) → frz F0 H1 S y = none := fun y m S hS => by
    obtain ⟨e1, e2⟩ := h.mut y m
    exact frz_out (h.fm y m) (fun m2 => e1 (hS y m2)) (h1.mut y m).2
  cases atm with
  | one l neg =>
    obtain ⟨b, dxb, ar, rg, ra, rfl, hb, har, hb1, hrg⟩ := hn
    have hFb : F0 b = none := none_same h.fz hb
    have hst : Stat (nmsOf st) M ⟨dxb, .one ar l neg, 1, oneWF l neg⟩ := rfl
    have hW := h.wd.grow h1.fz hFb (S := [b, ar]) (dx := dxb) (rg := rg) (ra := ra) (kd := .one ar l neg) (d := 1) (wf := oneWF l neg) hb1 (by simp) (frz_rg h1.fz (by simp) hrg) hst (Ways.fwd_one l neg)
    refine ⟨b, _, frz F0 H1 [b, ar], rfl, h1.grow (h.wd.le hFb) hW same_frz (frz_same h1.fz) (fun y m => mut' y m [b, ar] (fun z mz => ?_)), same_frz, _, addM_same, hD, hx⟩
    rcases List.mem_cons.mp mz with e | mz
    · rw [e]; exact hb
    · rw [List.mem_singleton.mp mz]; exact har
  | stand z =>
    obtain ⟨b, dxb, rg, ra, rfl, hb, hb1⟩ := hn
    have hFb : F0 b = none := none_same h.fz hb
    have hst : Stat (nmsOf st) M ⟨dxb, .stand z, 1, standW z⟩ := ⟨hx.1, rfl⟩
    have hfw : FwdW (standW z) := fun t i hi y hy => by
      have key : ∀ c : Prop, [Decidable c] → y ∈ (if c then [(i, ([] : PatWords.Caps))] else []) → i ≤ y.1 ∧ y.1 ≤ t.length := fun c _ m => by
        split at m
        · rw [List.mem_singleton.mp m]
          exact ⟨Nat.le_refl _, hi⟩
        · cases m
      unfold standW at hy
      split at hy
      · exact key _ hy
      · split at hy
        · exact key _ hy
        · exact key _ hy
    have hW := h.wd.grow h1.fz hFb (S := [b]) (dx := dxb) (rg := rg) (ra := ra) (kd := .stand z) (d := 1) (wf := standW z) hb1 (by simp) trivial hst hfw
    refine ⟨b, _, frz F0 H1 [b], rfl, h1.grow (h.wd.le hFb) hW same_frz (frz_same h1.fz) (fun y m => mut' y m [b] (fun z mz => by rw [List.mem_singleton.mp mz]; exact hb)), same_frz, _, addM_same, hD, hx.2⟩
theorem scNext : FnScope ["self"] ["self"] (defScope (sR 19)) := ⟨rfl, rfl, rfl, by decide +kernel, rfl, by decide +kernel, by decide +kernel⟩
theorem at_bar (c : UInt8) : (cds "|").contains c.toNat = decide (c = 124) := at_sign (by decide +kernel) c
theorem atom1_up {g : List UInt8} {p q : Nat} {c : UInt8} {a : Pat} {ns : List (Nat × Name)} {s : List UInt8} (hc : g[p]? = some c) (h : atomP 1 0 [] p (g.drop p) = .ok (a, ns, s, q)) (h1 : c ≠ 40) (h2 : c ≠ 60) (hs : s = g.drop q) (hq : q ≤ g.length) : p < q := by
  rw [drop_cons hc] at h
  have hl := Mach.atom1_len h1 h2 h
  rw [← drop_cons hc] at hl
  dsimp only at hl
  rw [hs, List.length_drop, List.length_drop] at hl
  omega
theorem ok_next {f : Addr} {fd : FuncData} (F : Fun K "take_next" "Reader.take_next" (sR 19) f fd) (T : Txt K mg C CF fI) (TB : TxB K CB)
    (M1 : MOk P w K mg base CX0 C 2 "at" ["self", "signs"] (spAt K C)) (M2 : MOk P w K mg base (L2N.CX P w) C 3 "take" ["self", "signs"] (spTake K C CF))
    (M3 : MOk P w K mg base CX0 CB 1 "end_row" ["self"] (spBEnd CB)) (M4 : MOk P w K mg base (L2N.CX P w) C 5 "take_opening" ["self"] (spOpen K C CB CF cs))
    (M5 : MOk P w K mg base (L2N.CX P w) C 5 "take_closing" ["self"] (spClose K C CB CF cs)) (M6 : MOk P w K mg base (L2N.CX P w) C 7 "take_repetition" ["self"] (spRepS K C CB CF cs))
    (M7 : MOk P w K mg base (L2N.CX P w) C 8 "take_single_atom" ["self"] (spSingle K C CF cs)) (M8 : MOk P w K mg base CX0 CB 1 "add_atom" ["self", "part", "atoms"] (spBAdd CB)) :
    FnOk P w K mg base (L2N.CX P w) 9 f fd ["self"] (spNext K C CB CF cs) := by
  obtain ⟨f1, fd1, m1, b1, G1⟩ := M1
  obtain ⟨f2, fd2, m2, b2, G2⟩ := M2
  obtain ⟨f3, fd3, m3, b3, G3⟩ := M3
  obtain ⟨f4, fd4, m4, b4, G4⟩ := M4
  obtain ⟨f5, fd5, m5, b5, G5⟩ := M5
  obtain ⟨f6, fd6, m6, b6, G6⟩ := M6
  obtain ⟨f7, fd7, m7, b7, G7⟩ := M7
  obtain ⟨f8, fd8, m8, b8, G8⟩ := M8
  refine F.okN scNext (fun vs H Q E h => ?_) (fun cdv A outer s H vs Q E hr h => ⟨_, pss_one (ps_if (pt_val (pe_meth (pv 0) T.cl m1 G1 (hr.mono (by decide)) b1 .nil pass0 (pa_cons pe_str pa_nil)))
      (pss_cons (ps_expr (pe_meth (pv 0) T.cl m2 G2 (hr.mono (by decide)) b2 .nil (L2N.passes_call (L2N.takes_of rfl rfl rfl rfl) (fun _ _ _ _ h => h)) (by exact (pa_cons pe_str pa_nil))))
        (pss_one (ps_expr (pe_meth0 (pe_ix ix_list (pe_fld (pv 0) rfl) (pe_un un_neg pe_int) (fun _ _ => rfl)) TB.cl m3 G3 (hr.mono (by decide)) b3 .nil pass0))))
      (pss_one (ps_if (pt_val (pe_meth (pv 0) T.cl m1 G1 (hr.mono (by decide)) b1 .nil pass0 (pa_cons pe_str pa_nil)))
        (pss_one (ps_expr (pe_meth0 (pv 0) T.cl m4 G4 (hr.mono (by decide)) b4 .nil (L2N.passes_call (L2N.takes_of rfl rfl rfl rfl) (fun _ _ _ _ h => h)))))
        (pss_one (ps_if (pt_val (pe_meth (pv 0) T.cl m1 G1 (hr.mono (by decide)) b1 .nil pass0 (pa_cons pe_str pa_nil)))
          (pss_one (ps_expr (pe_meth0 (pv 0) T.cl m5 G5 (hr.mono (by decide)) b5 .nil (L2N.passes_call (L2N.takes_of rfl rfl rfl rfl) (fun _ _ _ _ h => h)))))
          (pss_one (ps_if (pt_val (pe_meth (pv 0) T.cl m1 G1 (hr.mono (by decide)) b1 .nil pass0 (pa_cons pe_str pa_nil)))
            (pss_one (ps_expr (pe_meth0 (pv 0) T.cl m6 G6 (hr.mono (by decide)) b6 .nil (L2N.passes_call (L2N.takes_of rfl rfl rfl rfl) (fun _ _ _ _ h => h)))))
            (pss_one (ps_expr (pe_meth (pe_ix ix_list (pe_fld (pv 0) rfl) (pe_un un_neg pe_int) (fun _ _ => rfl)) TB.cl m8 G8 (hr.mono (by decide)) b8 .nil pass0 (by exact (pa_cons (pe_meth0 (pv 0) T.cl m7 G7 hr b7 .nil (L2N.passes_call (L2N.takes_of rfl rfl rfl rfl) (fun _ _ _ _ h => h))) (pa_cons pe_int pa_nil))))))))))))), ?_⟩)
  · unfold spNext at h
    obtain ⟨_, _, _, _, _, _, _, _, _, _, _, _, _, _, rfl, _⟩ := h
    rfl
  unfold spNext at h
  obtain ⟨a, dx, ag, an, ab, g, ts, ks, M, F0, st, fr, frs, c, rfl, h, hf, hc, hQ⟩ := h
  have hlt := lt_of_some hc
  have hg128 := h.g128
  refine ⟨_, rfl, a, dx, _, rfl, h.rd.1, rF_no (by decide +kernel), ?_⟩
  refine at_use h.rd (by decide +kernel) fun H1 s1 => ?_
  have h1 := h.same s1
  refine ⟨_, rfl, ?_⟩
  rw [isAt_some hc, at_bar]
  by_cases c1 : c = 124
  · refine if_true_of (decide_eq_true c1) ?_
    subst c1
    refine ⟨_, rfl, a, dx, _, rfl, h1.rd.1, rF_no (by decide +kernel), ?_⟩
    refine take_use h1.rd ?_
    rw [takeE_yes hc (by decide +kernel)]
    intro H2 r2 k2
    have h2 := h1.go r2 k2 (by omega) (Nat.le_succ _)
    have sk1 := h1.sk
    have sk2 := h2.sk
    have hf2 : ({ st with p := st.p + 1, b := g.drop (st.p + 1) } : Mach.St).frs = fr :: frs := hf
    rw [hf2] at sk2
    rw [hf] at sk1
    cases ks with
    | nil => exact sk2.elim
    | cons k ks =>
      obtain ⟨hbr, hs⟩ := sk2
      have hrl := sk1.1.rlen
      refine ⟨_, rfl, a, C, dx, _, _, rfl, h2.rd.1, T.cl, T.nB, rF_brackets, _, rfl, ab, _, _, _, rfl, rfl, h2.lastB, atI_last _ _, k.b, k.dx, _, rfl, hbr.at_, bF_no (by decide +kernel), ?_⟩
      refine bend_use hbr.at_ hbr.arl (by rw [List.length_map]; omega) fun H3 al hb3 hal hal3 har3 k3 => ?_
      have hQ' : ∀ H' ts' ks' M' F', RS K C CB cs H' a dx ag an ab g ts' ks' M' F' ⟨st.p + 1, g.drop (st.p + 1), st.ns, fr.bar :: frs⟩ → Same F0 F' → Q .non H' := hQ
      exact hQ' H3 ts _ M F0 (RS.barred h2 hf2 hal hal3 har3 hb3 k3 (by show k.rows.length + 1 ≤ st.p + 1 + 1; omega)) (fun _ _ h => h)
  refine if_false_of (decide_eq_false c1) ?_
  refine ⟨_, rfl, a, dx, _, rfl, h1.rd.1, rF_no (by decide +kernel), ?_⟩
  refine at_use h1.rd (by decide +kernel) fun H2 s2 => ?_
  have h2 := h1.same s2
  refine ⟨_, rfl, ?_⟩
  rw [isAt_some hc, at_open]
  by_cases c2 : c = 40 ∨ c = 60
  · refine if_true_of (by simpa using c2) ?_
    refine ⟨_, rfl, a, dx, _, rfl, h2.rd.1, rF_no (by decide +kernel), ?_⟩
    rw [step_open hf c2] at hQ
    exact open_use h2 hf hc c2 hQ
  refine if_false_of (by simpa using c2) ?_
  refine ⟨_, rfl, a, dx, _, rfl, h2.rd.1, rF_no (by decide +kernel), ?_⟩
  refine at_use h2.rd (by decide +kernel) fun H3 s3 => ?_
  have h3 := h2.same s3
  refine ⟨_, rfl, ?_⟩
  rw [isAt_some hc, at_shut]
  by_cases c3 : c = 41 ∨ c = 62
  · refine if_true_of (by simpa using c3) ?_
    refine ⟨_, rfl, a, dx, _, rfl, h3.rd.1, rF_no (by decide +kernel), ?_⟩
    rw [step_close c3] at hQ
    exact close_use h3 hf hc hQ
  refine if_false_of (by simpa using c3) ?_
  refine ⟨_, rfl, a, dx, _, rfl, h3.rd.1, rF_no (by decide +kernel), ?_⟩
  refine at_use h3.rd (by decide +kernel) fun H4 s4 => ?_
  have h4 := h3.same s4
  refine ⟨_, rfl, ?_⟩
  rw [isAt_some hc, at_rep]
  cases c4 : Mach.isRep c with
  | true =>
    refine if_true_of rfl ?_
    refine ⟨_, rfl, a, dx, _, rfl, h4.rd.1, rF_no (by decide +kernel), ?_⟩
    rw [step_rep hc c4] at hQ
    exact repS_use h4 hf hc c4 hQ
  | false =>
    refine if_false_of rfl ?_
    have n40 : c ≠ 40 := fun e => c2 (.inl e)
    have n60 : c ≠ 60 := fun e => c2 (.inr e)
    have hst : Mach.stepC st.p st.ns fr frs c (g.drop (st.p + 1)) = match atomP 1 0 [] st.p (g.drop st.p) with
        | .error e => .error e
        | .ok (x, _, s, q) => .ok ⟨q, s, st.ns, fr.push x :: frs⟩ := by
      unfold Mach.stepC
      rw [if_neg c1, if_neg n40, if_neg n60, if_neg c3, c4, if_neg Bool.false_ne_true, drop_cons hc]
      all_goals (cases atomP 1 0 [] st.p (c :: g.drop (st.p + 1)) <;> rfl)
    rw [hst] at hQ
    have sk4 := h4.sk
    rw [hf] at sk4
    cases ks with
    | nil => exact sk4.elim
    | cons k ks =>
      obtain ⟨hbr4, hs4⟩ := sk4
      refine ⟨_, rfl, a, C, dx, _, _, rfl, h4.rd.1, T.cl, T.nB, rF_brackets, _, rfl, ab, _, _, _, rfl, rfl, h4.lastB, atI_last _ _, k.b, k.dx, _, rfl, hbr4.at_, bF_no (by decide +kernel), ?_⟩
      refine ⟨_, rfl, a, dx, _, rfl, h4.rd.1, rF_no (by decide +kernel), ?_⟩
      refine single_use h4.rd hc n40 n60 ?_
      unfold singW
      cases ea : atomP 1 0 [] st.p (g.drop st.p) with
      | error e => rw [ea] at hQ; exact hQ
      | ok y =>
        obtain ⟨x, ns0, s, q⟩ := y
        obtain ⟨hx1, hxs, hxq⟩ := atom1_facts hc n40 n60 ea
        have hup := atom1_up hc ea n40 n60 hxs hxq
        subst hxs
        rw [ea] at hQ
        intro H5 v atm r5 k5 hn5 hfx
        have hpl := h4.plen
        rw [hf, List.length_cons] at hpl
        obtain ⟨bx, M5, F5, rfl, h5, sF5, hfit5⟩ := h4.atom (D := 2 * (q - frs.length)) hn5 hfx k5 r5 hxq (Nat.le_of_lt hup) (by omega)
        have sk5 := h5.sk
        have hf5 : ({ st with p := q, b := g.drop q } : Mach.St).frs = fr :: frs := hf
        rw [hf5] at sk5
        obtain ⟨hbr5, hs5⟩ := sk5
        obtain ⟨rs, al, bs, rss5, er5, hfr5, hfi5, hrows5, har5, hal5, hbl5⟩ := hbr5.cur
        have hbl0 : bs.length ≤ st.p := hbr4.ilen (al, bs) (by rw [er5]; simp)
        refine badd_use hbr5.at_ har5 hal5 (by rw [List.length_map]; omega) fun H6 hb6 hal6 k6 => ?_
        have hQ' : ∀ H' ts' ks' M' F', RS K C CB cs H' a dx ag an ab g ts' ks' M' F' ⟨q, g.drop q, st.ns, fr.push x :: frs⟩ → Same F0 F' → Q .non H' := hQ
        refine hQ' H6 ts _ M5 F5 (RS.push h5 hf5 er5 (pt := x) hfit5 ?_ hal6 k6 (by show bs.length + 1 ≤ q; omega)) sF5
        rw [hx1]
        exact hb6
end
end Pat
end

section
namespace Pat
open PySem PySem.Spec PyProof.Rows L2
open PySem.FaultX (FaultTxt)
open PatUtf (Fault)
open PatWords (Pat repP timesP partsP oneP atomP valueP Name)
open Mach (Fr)
open Ways (WF FwdW FitsW FitAll oneWF seqsWF altsWF repWF capWF)
theorem step_ne {p : Nat} {ns : List (Nat × Name)} {fr : Fr} {frs : List Fr} {c : UInt8} {r : List UInt8} {st : Mach.St} (h : Mach.stepC p ns fr frs c r = .ok st) : st.frs ≠ [] := by
  unfold Mach.stepC at h
  split at h; · cases h; exact fun e => nomatch e
  split at h
  · split at h
    · cases h
    · cases h; exact fun e => nomatch e
  split at h
  · split at h
    · cases h
    · split at h
      · cases h
      · cases h; exact fun e => nomatch e
  split at h
  · split at h
    · cases frs with
      | nil => cases h
      | cons gg gs => cases h; exact fun e => nomatch e
    · cases h
  split at h
  · split at h
    · split at h
      · cases h
      · cases h; exact fun e => nomatch e
    · cases h
  · split at h
    · cases h
    · cases h; exact fun e => nomatch e
/-- the three objects that a pattern is to who asks for it: the parts M with what's frozen F -/
structure PatAt (K : PySem.W.Frag) (cs : Cs) (CP : Addr) (H : Hp) (pp dxp an b : Addr) (ts : List Addr) (M : PM) (F : Hp) (pt : Pat) (ns : List (Nat × Name)) (g : List UInt8) : Prop where
  at_ : H pp = some (.ins CP dxp [("names", .ref an), ("body", .ref b)])
  nl : H an = some (.lst (ts.map V.ref))
  nm : Nms K H ts ns
  wd : Wd K cs M F (ns.map (·.2))
  fz : Same F H
  fit : Fits M b pt 262
  nmd : (ns.map (·.2)).Nodup
  fp : F pp = none
  fn : F an = none
  ok : ∀ x ∈ ns, NmOk g x
  nlen : ns.length ≤ 16
section
variable {P : Program} {w : World} {K : PySem.W.Frag} {mg : Str → Option Value} {base : Heap} {C CB CF CP fI : Addr} {cs : Cs} {H : Hp} {a dx ag an ab : Addr} {g : List UInt8} {ts : List Addr} {ks : List Bk} {M : PM} {F0 : Hp} {st : Mach.St} {Q : VK} {E : XK}
/-! ### Pattern(names, body) -/
structure TxP (K : PySem.W.Frag) (CP : Addr) : Prop where
  cl : Cls K CP
  n1 : NoAttr K CP "names"
  n2 : NoAttr K CP "body"
@[irreducible] def spPInit (CP : Addr) : Sp := fun vs H Q _ => ∃ (pp dxp an b : Addr), vs = [.ref pp, .ref an, .ref b] ∧ H pp = some (.ins CP dxp []) ∧ ∀ H', H' pp = some (.ins CP dxp [("names", .ref an), ("body", .ref b)]) → Kept H H' pp → Q .non H'
theorem scPI2 : FnScope ["self", "names", "body"] ["self", "names", "body"] (defScope (inClass (top i_Pattern) 0)) := ⟨rfl, rfl, rfl, by decide +kernel, rfl, by decide +kernel, by decide +kernel⟩
theorem ok_pinit {f : Addr} {fd : FuncData} (F : Fun K "__init__" "Pattern.__init__" (inClass (top i_Pattern) 0) f fd) (T : TxP K CP) : FnOk P w K mg base CX0 1 f fd ["self", "names", "body"] (spPInit CP) := by
  refine F.ok scPI2 (fun vs H Q E h => ?_) (fun cdv A outer s H vs Q E hr h => ⟨_, pss_cons (ps_fld (pv 0) (pv 1) rfl) (pss_one (ps_fld (pv 0) (pv 2) rfl)), ?_⟩)
  · unfold spPInit at h
    obtain ⟨_, _, _, _, rfl, _⟩ := h
    rfl
  unfold spPInit at h
  obtain ⟨pp, dxp, an, b, rfl, hp, hQ⟩ := h
  refine ⟨_, rfl, _, rfl, pp, CP, dxp, _, rfl, hp, T.cl, T.n1, by show 0 < 1000; decide, ?_⟩
  refine ⟨_, rfl, _, rfl, pp, CP, dxp, _, rfl, upd_same, T.cl, T.n2, by show 1 < 1000; decide, ?_⟩
  refine hQ _ (upd_same.trans ?_) (Kept.upd.trans Kept.upd)
  rw [nf1 (by decide +kernel)]
/-! ### made_pattern -/
@[irreducible] def spFin (K : PySem.W.Frag) (C CB CF CP : Addr) (cs : Cs) : Sp := fun vs H Q E => ∃ (a dx ag an ab : Addr) (g : List UInt8) (ts : List Addr) (ks : List Bk) (M : PM) (F : Hp) (st : Mach.St), vs = [.ref a] ∧ RS K C CB cs H a dx ag an ab g ts ks M F st ∧ st.frs ≠ [] ∧
  match Mach.finish st with
  | .error e => Out CF e E
  | .ok (pt, ns) => ∀ H' pp dxp an b ts M' F', PatAt K cs CP H' pp dxp an b ts M' F' pt ns g → Same F F' → Q (.ref pp) H'
theorem fin_use (h : RS K C CB cs H a dx ag an ab g ts ks M F0 st) (hne : st.frs ≠ []) (r : match Mach.finish st with
    | .error e => Out CF e E
    | .ok (pt, ns) => ∀ H' pp dxp an b ts M' F', PatAt K cs CP H' pp dxp an b ts M' F' pt ns g → Same F0 F' → Q (.ref pp) H') : spFin K C CB CF CP cs [.ref a] H Q E := by
  unfold spFin
  exact ⟨a, dx, ag, an, ab, g, ts, ks, M, F0, st, rfl, h, hne, r⟩
theorem scFin : FnScope ["self"] ["self"] (defScope (sR 20)) := ⟨rfl, rfl, rfl, by decide +kernel, rfl, by decide +kernel, by decide +kernel⟩
theorem ok_fin {f : Addr} {fd : FuncData} (F : Fun K "made_pattern" "Reader.made_pattern" (sR 20) f fd) (T : Txt K mg C CF fI) (TB : TxB K CB) (k200 : ∃ t, mg "MOST_ATOMS" = some (.int 200 t)) (k7 : ∃ t, mg "TOO_MANY_ATOMS" = some (.int 7 t))
    (NP : NOk P w K mg base CP 1 "Pattern" ["self", "names", "body"] (spPInit CP)) (M3 : MOk P w K mg base CX0 CB 4 "made_part" ["self"] (spMade K CB cs)) :
    FnOk P w K mg base (L2N.CX P w) 5 f fd ["self"] (spFin K C CB CF CP cs) := by
  obtain ⟨fP, fdP, MP, gP, bP, GP⟩ := NP
  obtain ⟨f3, fd3, m3, b3, G3⟩ := M3
  refine F.okN scFin (fun vs H Q E h => ?_) (fun cdv A outer s H vs Q E hr h => ⟨_, pss_cons (ps_if (pt_cmpR op_gt (pe_callB call_len_seq (by rfl) T.len PySem.boot_len (pa_cons (pe_fld (pv 0) rfl) pa_nil)) pe_int (nomark _))
        (pss_one (ps_raiseFault rfl T.ft hr (L2N.takes_of rfl rfl rfl rfl) (by exact (pa_cons (pe_gi T.k1) (pa_cons (pe_fld (pv 0) rfl) pa_nil))))) pss_nil)
      (pss_cons (ps_if (pt_cmpR op_gt (pe_fld (pe_ix ix_list (pe_fld (pv 0) rfl) pe_int (fun _ _ => rfl)) rfl) (pe_gi k200) (nomark _))
        (pss_one (ps_raiseFault rfl T.ft hr (L2N.takes_of rfl rfl rfl rfl) (by exact (pa_cons (pe_gi k7) (pa_cons pe_int pa_nil))))) pss_nil)
      (pss_one (ps_ret (pe_make MP GP (hr.mono (by decide)) rfl gP bP .nil pass0 (by exact (pa_cons (pe_fld (pv 0) rfl) (pa_cons (pe_meth0 (pe_ix ix_list (pe_fld (pv 0) rfl) pe_int (fun _ _ => rfl)) TB.cl m3 G3 hr b3 .nil pass0) pa_nil))))))), ?_⟩)
  · unfold spFin at h
    obtain ⟨_, _, _, _, _, _, _, _, _, _, _, rfl, _⟩ := h
    rfl
  unfold spFin at h
  obtain ⟨a, dx, ag, an, ab, g, ts, ks, M, F0, st, rfl, h, hne, hQ⟩ := h
  have hbl := Stk.len h.sk
  refine ⟨_, rfl, a, C, dx, _, _, rfl, h.rd.1, T.cl, T.nB, rF_brackets, ab, _, rfl, .inl (SqL.of h.bl), _, _, rfl, rfl, _, rfl, ?_⟩
  rw [List.length_map, List.length_reverse, List.length_map, hbl]
  have sk := h.sk
  cases hf : st.frs with
  | nil => exact absurd hf hne
  | cons fr frs =>
    rw [hf] at sk hbl
    cases frs with
    | cons f2 fs =>
      have e : Mach.finish st = .error ⟨1, st.p⟩ := by unfold Mach.finish; rw [hf]
      rw [e] at hQ
      have hQ' : Out CF ⟨1, st.p⟩ E := hQ
      exact if_true_of (decide_eq_true (by show (1 : Int) < ((fs.length + 1 + 1 : Nat) : Int); omega)) ⟨_, rfl, a, C, dx, _, _, rfl, h.rd.1, T.cl, T.nP, rF_place, _, _, rfl, fun d hd => hQ' d _ upd_same⟩
    | nil =>
      have e : Mach.finish st = if PatWords.ATOMS < fr.pat.size then .error ⟨7, 0⟩ else .ok (fr.pat, st.ns) := by unfold Mach.finish; rw [hf]
      rw [e, pat_size] at hQ
      refine if_false_of rfl ?_
      cases ks with
      | nil => exact sk.elim
      | cons k ks =>
        obtain ⟨hbr, hs⟩ := sk
        cases ks with
        | cons b2 bs => exact hs.elim
        | nil =>
          have hbl1 : H ab = some (.lst [V.ref k.b]) := h.bl
          refine ⟨_, rfl, a, C, dx, _, _, rfl, h.rd.1, T.cl, T.nB, rF_brackets, ab, _, _, _, rfl, rfl, SqL.of hbl1, atI_nat (j := 0) rfl, k.b, CB, k.dx, _, _, rfl, hbr.at_, TB.cl, TB.nA, bF_atoms, _, _, rfl, rfl, _, rfl, ?_⟩
          by_cases c : PatWords.ATOMS < fsize fr
          · rw [if_pos c] at hQ
            have hQ' : Out CF ⟨7, 0⟩ E := hQ
            refine if_true_of (decide_eq_true ?_) ⟨_, _, rfl, fun d hd => hQ' d _ upd_same⟩
            unfold PatWords.ATOMS at c
            omega
          · rw [if_neg c] at hQ
            refine if_false_of (decide_eq_false ?_) ?_
            · unfold PatWords.ATOMS at c
              omega
            refine ⟨_, rfl, a, C, dx, _, _, rfl, h.rd.1, T.cl, T.nN, rF_names, ?_⟩
            refine ⟨_, rfl, a, C, dx, _, _, rfl, h.rd.1, T.cl, T.nB, rF_brackets, ab, _, _, _, rfl, rfl, SqL.of hbl1, atI_nat (j := 0) rfl, k.b, k.dx, _, rfl, hbr.at_, bF_no (by decide +kernel), ?_⟩
            obtain ⟨rss, hfit, hrows⟩ := hbr.fit
            have hg128 := h.g128
            have hpl := h.rd.2.2.1
            have hrne : k.rows ≠ [] := fun e => by
              rw [e] at hfit
              have := hfit.len
              rw [List.length_append] at this
              simp at this
            refine made_use hbr hrne (by omega) hfit h.wd h.fz hrows ?_
            intro H3 M1 F1 x s3 sF3 sFH3 hM3 hW3 hg3 hx3
            have hnone : ∀ y ∈ [a, an, ab], F1 y = none := fun y m => by
              cases e : F1 y with
              | none => rfl
              | some o =>
                have m' : y ∈ [a, an, ab] ++ foots [k] := List.mem_append_left _ m
                obtain ⟨h1, h2⟩ := h.mut y m'
                rcases hg3 y (by rw [e]; exact fun h => nomatch h) with z | z | z | z
                · exact absurd (h.fm y m') z
                · exact absurd z h1
                · exact absurd (List.mem_append_left _ (List.mem_cons_of_mem _ (List.mem_cons_of_mem _ z)) : y ∈ k.foot ++ []) (h.n2 y m)
                · rw [h2] at z; cases z
            intro pp dxp hpp hdx hnd
            have eat : fr.atom = fr.pat := by
              unfold Mach.Fr.atom
              rw [(hbr.out rfl).2]
            rw [eat] at hx3
            unfold spPInit
            refine ⟨pp, dxp, an, x, rfl, upd_same, fun H4 hp4 k4 => ⟨rfl, ?_⟩⟩
            have s4 := made_same hpp hdx k4
            refine hQ H4 pp dxp an x ts M1 F1 ?_ sF3
            exact {
              at_ := hp4
              nl := s4 _ _ (s3 _ _ h.nl)
              nm := Nms.map (fun t xs e => sqt_same e (Same.trans s3 s4)) h.nm
              wd := hW3
              fz := Same.trans sFH3 s4
              fit := hx3.mono (fun _ _ h => h) (by show 2 * (st.p - 0) + 3 ≤ 262; omega)
              nmd := h.nmd
              fp := none_same sFH3 hpp
              fn := hnone an (by simp)
              ok := h.ok
              nlen := h.nlen }
/-! ### Reader(given) -/
@[irreducible] def spRInit (K : PySem.W.Frag) (C CB : Addr) (cs : Cs) : Sp := fun vs H Q _ => ∃ (a dx ag : Addr) (g : List UInt8) (F : Hp), vs = [.ref a, .ref ag] ∧ H a = some (.ins C dx []) ∧ Same F H ∧ F a = none ∧ SqL K F ag (gv g) ∧ g.length ≤ 128 ∧
  ∀ H' an ab k M, RS K C CB cs H' a dx ag an ab g [] [k] M F (Mach.start g) → Q .non H'
theorem rinit_use (ha : H a = some (.ins C dx [])) (sF : Same F0 H) (fa : F0 a = none) (sq : SqL K F0 ag (gv g)) (hl : g.length ≤ 128) (r : ∀ H' an ab k M, RS K C CB cs H' a dx ag an ab g [] [k] M F0 (Mach.start g) → Q .non H') : spRInit K C CB cs [.ref a, .ref ag] H Q E := by
  unfold spRInit
  exact ⟨a, dx, ag, g, F0, rfl, ha, sF, fa, sq, hl, r⟩
theorem scRI0 : FnScope ["self", "given"] ["self", "given"] (defScope (sR 0)) := ⟨rfl, rfl, rfl, by decide +kernel, rfl, by decide +kernel, by decide +kernel⟩
theorem rF_new {ag an ab : Addr} : putF "brackets" (.ref ab) (putF "names" (.ref an) (putF "place" (.int 0) (putF "given" (.ref ag) []))) = rF ag 0 an ab := by
  have e1 : putF "place" (.int 0) (putF "given" (.ref ag) []) = [(("given" : Str), V.ref ag), (("place" : Str), V.int 0)] := (put_past (by decide +kernel)).trans rfl
  have e2 : putF "names" (.ref an) [(("given" : Str), V.ref ag), (("place" : Str), V.int 0)] = [(("given" : Str), V.ref ag), (("place" : Str), V.int 0), (("names" : Str), V.ref an)] := (put_past (by decide +kernel)).trans (congrArg _ ((put_past (by decide +kernel)).trans rfl))
  rw [e1, e2]
  exact (put_past (by decide +kernel)).trans (congrArg _ ((put_past (by decide +kernel)).trans (congrArg _ ((put_past (by decide +kernel)).trans rfl))))
theorem ok_rinit {f : Addr} {fd : FuncData} (F : Fun K "__init__" "Reader.__init__" (sR 0) f fd) (T : Txt K mg C CF fI) (NB : NOk P w K mg base CB 1 "Bracket" ["self", "closing", "number"] (spBInit CB)) :
    FnOk P w K mg base CX0 3 f fd ["self", "given"] (spRInit K C CB cs) := by
  obtain ⟨fB, fdB, MB, gB, bB, GB⟩ := NB
  refine F.ok scRI0 (fun vs H Q E h => ?_) (fun cdv A outer s H vs Q E hr h => ⟨_, pss_cons (ps_fld (pv 0) (pv 1) rfl) (pss_cons (ps_fld (pv 0) pe_int rfl) (pss_cons (ps_fld (pv 0) (pe_lst pa_nil) rfl)
      (pss_one (ps_fld (pv 0) (pe_lst (pa_cons (pe_make MB GB hr rfl gB bB .nil pass0 (by exact (pa_cons pe_str (pa_cons pe_non pa_nil)))) pa_nil)) rfl)))), ?_⟩)
  · unfold spRInit at h
    obtain ⟨_, _, _, _, _, rfl, _⟩ := h
    rfl
  unfold spRInit at h
  obtain ⟨a, dx, ag, g, F0, rfl, ha, sF, fa, sq, hl, hQ⟩ := h
  refine ⟨_, rfl, _, rfl, a, C, dx, _, rfl, ha, T.cl, T.nG, by show 0 < 1000; decide, ?_⟩
  refine ⟨_, rfl, a, C, dx, _, rfl, upd_same, T.cl, T.nP, by show 1 < 1000; decide, ?_⟩
  refine ⟨by show 0 ≤ sizeLine; decide, fun an hn => ?_⟩
  rw [upd_upd] at hn
  have hna : an ≠ a := fun e => by rw [e, upd_same] at hn; cases hn
  rw [upd_upd]
  refine ⟨_, rfl, a, C, dx, _, rfl, (upd_ne hna.symm).trans upd_same, T.cl, T.nN, by show 2 < 1000; decide, ?_⟩
  intro x dxx hx hdx hne
  refine binit_use upd_same fun H4 ar al hb4 har hal hra h4r h4l k4 => ⟨rfl, ?_⟩
  have s4 := made_same hx hdx k4
  refine ⟨by show 1 ≤ sizeLine; decide, fun ab hab => ?_⟩
  have ha4 := s4 a _ upd_same
  have han4 : H4 an = some (.lst []) := s4 an _ ((upd_ne hna).trans upd_same)
  have habx : ab ≠ x := (ne_of_none hb4 hab).symm
  have haba : ab ≠ a := (ne_of_none ha4 hab).symm
  have haban : ab ≠ an := (ne_of_none han4 hab).symm
  have habr : ab ≠ ar := (ne_of_none h4r hab).symm
  have habl : ab ≠ al := (ne_of_none h4l hab).symm
  have hxa : x ≠ a := fun e => by rw [e, upd_same] at hx; cases hx
  have hHn : H an = none := by
    rw [upd_ne hna] at hn
    exact hn
  have none0 : ∀ {o1 o2 o3 : HO} (y : Addr), upd (upd (upd H a o1) an o2) a o3 y = none → H y = none ∧ y ≠ a ∧ y ≠ an := fun {o1 o2 o3} y e => by
    have n1 : y ≠ a := fun z => by rw [z, upd_same] at e; cases e
    rw [upd_ne n1] at e
    have n2 : y ≠ an := fun z => by rw [z, upd_same] at e; cases e
    rw [upd_ne n2, upd_ne n1] at e
    exact ⟨e, n1, n2⟩
  have none1 : ∀ {Hx : Hp} (y : Addr), upd (upd Hx dxx (.own x)) x (.ins CB dxx []) y = none → Hx y = none ∧ y ≠ x := fun {Hx} y e => by
    have n1 : y ≠ x := fun z => by rw [z, upd_same] at e; cases e
    rw [upd_ne n1] at e
    have n2 : y ≠ dxx := fun z => by rw [z, upd_same] at e; cases e
    rw [upd_ne n2] at e
    exact ⟨e, n1⟩
  obtain ⟨hx0, hxa', hxan⟩ := none0 x hx
  obtain ⟨hr1, hrx⟩ := none1 ar har
  obtain ⟨hr0, hra', hran⟩ := none0 ar hr1
  obtain ⟨hl1, hlx⟩ := none1 al hal
  obtain ⟨hl0, hla', hlan⟩ := none0 al hl1
  refine ⟨_, rfl, a, C, dx, _, rfl, (upd_ne haba.symm).trans ha4, T.cl, T.nB, by show 3 < 1000; decide, ?_⟩
  -- what was there stands
  have hHx : ∀ q o, H q = some o → q ≠ a → H4 q = some o := fun q o e n => by
    refine s4 q o ?_
    have nan : q ≠ an := ne_of_none e hHn
    rw [upd_ne n, upd_ne nan, upd_ne n]
    exact e
  have hFH : ∀ q o, F0 q = some o → q ≠ a := fun q o e n => by rw [n, fa] at e; cases e
  have sF5 : Same F0 (upd (upd H4 ab (.lst [V.ref x])) a (.ins C dx (putF "brackets" (.ref ab) (putF "names" (.ref an) (putF "place" (.int 0) (putF "given" (.ref ag) [])))))) := fun q o e => by
    have h4 := hHx q o (sF q o e) (hFH q o e)
    rw [upd_ne (hFH q o e), upd_ne (ne_of_none h4 hab)]
    exact h4
  have fnone : ∀ y, H y = none → F0 y = none := fun y e => none_same sF e
  have habH : H ab = none := by
    cases e : H ab with
    | none => rfl
    | some o => rw [hHx ab o e haba] at hab; cases hab
  refine hQ _ an ab ⟨x, dxx, ar, .non, [(al, [])]⟩ (fun _ => none) ?_
  exact {
    rd := ⟨upd_same.trans (congrArg (fun q => some (HO.ins C dx q)) rF_new), sql_same sq sF5, Nat.zero_le _, Nat.le_trans hl (by decide)⟩
    b := rfl
    nl := (upd_ne hna).trans ((upd_ne haban.symm).trans han4)
    nm := trivial
    ok := fun _ m => nomatch m
    bl := (upd_ne haba).trans upd_same
    sk := by
      refine ⟨?_, trivial⟩
      exact {
        at_ := (upd_ne hxa).trans ((upd_ne habx.symm).trans hb4)
        arl := (upd_ne hra').trans ((upd_ne habr.symm).trans h4r)
        rws := fun r m => by
          rw [List.mem_singleton.mp m]
          exact (upd_ne hla').trans ((upd_ne habl.symm).trans h4l)
        fit := ⟨[], ⟨trivial, trivial⟩, rfl⟩
        num := rfl
        last := fun e => nomatch e
        clo := Nat.zero_le _
        out := fun _ => ⟨rfl, rfl⟩
        rlen := Nat.le_refl 1
        ilen := fun r m => by
          rw [List.mem_singleton.mp m]
          exact Nat.zero_le _ }
    wd := ⟨fun _ _ e => (nomatch e), fun _ _ e => (nomatch e), fun _ _ e => (nomatch e)⟩
    fz := sF5
    sq := sq
    n1 := ⟨hna.symm, haba.symm, haban.symm⟩
    n2 := fun y m m2 => by
      have m2 : y ∈ [x, ar, al] := by simpa [foots, Bk.foot] using m2
      simp only [List.mem_cons, List.not_mem_nil, or_false] at m m2
      rcases m with e | e | e <;> rcases m2 with e2 | e2 | e2
      · exact hxa (e2.symm.trans e)
      · exact hra' (e2.symm.trans e)
      · exact hla' (e2.symm.trans e)
      · exact hxan (e2.symm.trans e)
      · exact hran (e2.symm.trans e)
      · exact hlan (e2.symm.trans e)
      · exact habx (e.symm.trans e2)
      · exact habr (e.symm.trans e2)
      · exact habl (e.symm.trans e2)
    n3 := by
      refine ⟨?_, (fun y _ m => by cases m), trivial⟩
      show [x, ar, al].Nodup
      simp [hrx.symm, hlx.symm, hra]
    fm := fun y m => by
      have m : y ∈ [a, an, ab, x, ar, al] := by simpa [foots, Bk.foot] using m
      simp only [List.mem_cons, List.not_mem_nil, or_false] at m
      rcases m with e | e | e | e | e | e
      · rw [e]; exact fa
      · rw [e]; exact fnone _ hHn
      · rw [e]; exact fnone _ habH
      · rw [e]; exact fnone _ hx0
      · rw [e]; exact fnone _ hr0
      · rw [e]; exact fnone _ hl0
    nmd := List.nodup_nil
    nlen := Nat.zero_le _
    flen := by show 1 ≤ 41; decide
    plen := Nat.le_refl 1
    g128 := hl }
/-! ### read_pattern -/
@[irreducible] def spRead (K : PySem.W.Frag) (CF CP : Addr) (cs : Cs) : Sp := fun vs H Q E => ∃ (ag : Addr) (g : List UInt8), vs = [.ref ag] ∧ SqL K H ag (gv g) ∧ g.length ≤ 128 ∧ match PatWords.read g with
  | .error e => Out CF e E
  | .ok (pt, ns) => ∀ H' pp dxp an b ts M' F', PatAt K cs CP H' pp dxp an b ts M' F' pt ns g → Same H F' → Q (.ref pp) H'
theorem read_use (sq : SqL K H ag (gv g)) (hl : g.length ≤ 128) (r : match PatWords.read g with
  | .error e => Out CF e E
  | .ok (pt, ns) => ∀ H' pp dxp an b ts M' F', PatAt K cs CP H' pp dxp an b ts M' F' pt ns g → Same H F' → Q (.ref pp) H') : spRead K CF CP cs [.ref ag] H Q E := by
  unfold spRead
  exact ⟨ag, g, rfl, sq, hl, r⟩
abbrev sRP : Stmt := top i_read_pattern
theorem scRP : FnScope ["given", "reader"] ["given"] (defScope sRP) := ⟨rfl, rfl, rfl, by decide +kernel, rfl, by decide +kernel, by decide +kernel⟩
theorem ok_read {f : Addr} {fd : FuncData} (F : Fun K "read_pattern" "read_pattern" sRP f fd) (T : Txt K mg C CF fI) (NR : NOk P w K mg base C 3 "Reader" ["self", "given"] (spRInit K C CB cs))
    (M1 : MOk P w K mg base (L2N.CX P w) C 9 "take_next" ["self"] (spNext K C CB CF cs)) (M2 : MOk P w K mg base (L2N.CX P w) C 5 "made_pattern" ["self"] (spFin K C CB CF CP cs)) :
    FnOk P w K mg base (L2N.CX P w) 10 f fd ["given"] (spRead K CF CP cs) := by
  obtain ⟨f1, fd1, m1, b1, G1⟩ := M1
  obtain ⟨f2, fd2, m2, b2, G2⟩ := M2
  obtain ⟨fR, fdR, MR, gR, bR, GR⟩ := NR
  refine F.okN scRP (fun vs H Q E h => ?_) (fun cdv A outer s H vs Q E hr h => ⟨_, pss_cons (ps_set (i := 1) scRP.nd rfl (Or.inl rfl) (pe_make MR GR (hr.mono (by decide)) rfl gR bR .nil pass0 (pa_cons (pv 0) pa_nil)))
      (pss_cons (ps_while (passes_of rfl) (pt_cmpR op_lt (pe_fld (pv 1) rfl) (pe_callB call_len_seq (by rfl) T.len PySem.boot_len (pa_cons (pv 0) pa_nil)) (nomark _)) (pss_one (ps_expr (pe_meth0 (pv 1) T.cl m1 G1 hr b1 .nil (L2N.passes_call (L2N.takes_of rfl rfl rfl rfl) (fun _ _ _ _ h => h))))))
      (pss_one (ps_ret (pe_meth0 (pv 1) T.cl m2 G2 (hr.mono (by decide)) b2 .nil (L2N.passes_call (L2N.takes_of rfl rfl rfl rfl) (fun _ _ _ _ h => h)))))), ?_⟩)
  · unfold spRead at h
    obtain ⟨_, _, rfl, _⟩ := h
    rfl
  unfold spRead at h
  obtain ⟨ag, g, rfl, sq, hl, hQ⟩ := h
  refine ⟨_, rfl, fun a dx hx hdx hne => ?_⟩
  have s0 : Same H (upd (upd H dx (.own a)) a (.ins C dx [])) := fun b u e => by
    rw [upd_ne (ne_of_none e hx), upd_ne (ne_of_none e hdx)]
    exact e
  refine rinit_use upd_same s0 hx sq hl fun H1 an ab k0 M0 h1 => ⟨rfl, ?_⟩
  have hgo : Mach.go (Mach.start g) = PatWords.read g := Mach.go_read g
  obtain ⟨RR, hRR⟩ : ∃ RR, PatWords.read g = RR := ⟨_, rfl⟩
  rw [hRR] at hgo hQ
  refine ⟨fun m σ H' => ∃ ts ks M F st, m = g.length - st.p ∧ σ = [some (.ref ag), some (.ref a)] ∧ RS K C CB cs H' a dx ag an ab g ts ks M F st ∧ Same H F ∧ st.frs ≠ [] ∧ Mach.go st = RR, ⟨_, [], [k0], M0, H, Mach.start g, rfl, rfl, h1, fun _ _ h => h, List.cons_ne_nil _ _, hgo⟩, ?_⟩
  rintro m σ H5 ⟨ts, ks, M, F5, st, rfl, rfl, h5, sF5, hne5, hgo5⟩
  refine ⟨_, rfl, a, C, dx, _, _, rfl, h5.rd.1, T.cl, T.nP, rF_place, _, rfl, ag, _, rfl, .inl h5.rd.2.1, _, _, rfl, rfl, _, rfl, ?_⟩
  by_cases c1 : st.p < g.length
  · refine if_true_of (decide_eq_true (by rw [gv_len]; omega)) ?_
    have hc : g[st.p]? = some g[st.p] := List.getElem?_eq_getElem c1
    cases hf : st.frs with
    | nil => exact absurd hf hne5
    | cons fr frs =>
      have est : st = ⟨st.p, g[st.p] :: g.drop (st.p + 1), st.ns, fr :: frs⟩ := by
        have e1 := h5.b
        rw [drop_cons hc] at e1
        cases st
        simp only at hf e1 ⊢
        rw [← hf, ← e1]
      have hstep : Mach.go st = match Mach.stepC st.p st.ns fr frs g[st.p] (g.drop (st.p + 1)) with
          | .error e => .error e
          | .ok st => Mach.go st := (congrArg Mach.go est).trans Mach.go_cons
      rw [hstep] at hgo5
      refine ⟨fun σ' H' => σ' = [some (.ref ag), some (.ref a)] ∧ ∃ ts' ks' M' F' st', RS K C CB cs H' a dx ag an ab g ts' ks' M' F' st' ∧ Same H F' ∧ st'.frs ≠ [] ∧ Mach.go st' = RR ∧ st.p < st'.p, ?_, ?_⟩
      · rintro σ' H' ⟨rfl, ts', ks', M', F', st', h6, sF6, hne6, hgo6, hlt6⟩
        exact ⟨g.length - st'.p, by omega, ts', ks', M', F', st', rfl, rfl, h6, sF6, hne6, hgo6⟩
      · refine ⟨_, rfl, a, dx, _, rfl, h5.rd.1, rF_no (by decide +kernel), ?_⟩
        refine next_use h5 hf hc ?_
        cases es : Mach.stepC st.p st.ns fr frs g[st.p] (g.drop (st.p + 1)) with
        | error e =>
          rw [es] at hgo5
          rw [← hgo5] at hQ
          exact hQ
        | ok st' =>
          rw [es] at hgo5
          intro H6 ts6 ks6 M6 F6 h6 sF6
          have hlen := Mach.stepC_len es
          have e6 := h6.b
          rw [e6, List.length_drop, ← drop_cons hc, List.length_drop] at hlen
          exact ⟨rfl, ts6, ks6, M6, F6, st', h6, Same.trans sF5 sF6, step_ne es, hgo5, by omega⟩
  · refine if_false_of (decide_eq_false (by rw [gv_len]; omega)) ?_
    have hpl : st.p = g.length := by have := h5.rd.2.2.1; omega
    have hb : st.b = [] := by rw [h5.b, hpl, List.drop_length]
    have hfin : Mach.go st = Mach.finish st := by
      obtain ⟨p, b, ns, frs⟩ := st
      dsimp only at hb
      subst hb
      exact Mach.go_nil
    rw [hfin] at hgo5
    refine ⟨_, rfl, a, dx, _, rfl, h5.rd.1, rF_no (by decide +kernel), ?_⟩
    refine fin_use h5 hne5 ?_
    rw [hgo5]
    cases RR with
    | error e => exact hQ
    | ok y =>
      obtain ⟨pt, ns⟩ := y
      exact fun H' pp dxp an b ts M' F' hp sF' => hQ H' pp dxp an b ts M' F' hp (Same.trans sF5 sF')
end
end Pat
end

section
namespace Pat
open PySem PySem.Spec PyProof.Rows L2
open PySem.FaultX (FaultTxt)
open PatUtf (Fault)
section
variable {P : Program} {w : World} {K : PySem.W.Frag} {mg : Str → Option Value} {base : Heap} {C CF CP fI : Addr} {cs : Cs} {H : Hp} {Q : VK} {E : XK}
theorem GOk.ofN {k : Nat} {x : Str} {ps : List Str} {sp : Sp} (h : GOk P w K mg base (L2N.CX P w) k x ps sp) : GOk P w K mg base (L2.CX P w) k x ps sp := by
  obtain ⟨f, fd, h1, h2, h3, h4⟩ := h
  exact ⟨f, fd, h1, h2, h3, h4.ofN⟩
/-! ### judge -/
def judgeL (g : List UInt8) : List Int := if 128 < g.length then [-2] else match PatWords.read g with
  | .error e => [-6, (e.kind : Nat), (e.place : Nat)]
  | .ok (_, ns) => [((ns.length : Nat) : Int)]
def spCall (K : PySem.W.Frag) : Sp := fun vs H Q _ => ∃ (ag : Addr) (g : List UInt8), vs = [.ref ag] ∧ SqL K H ag (gv g) ∧ g.length ≤ 1000 ∧ ∀ (H' : Hp) (p : Addr), H' p = some (.lst ((judgeL g).map V.int)) → Q (.ref p) H'
abbrev sJ : Stmt := top i_judge
theorem scJ : FnScope ["p", "pattern", "fault"] ["p"] (defScope sJ) := ⟨rfl, rfl, rfl, by decide +kernel, rfl, by decide +kernel, by decide +kernel⟩
theorem ok_call {f : Addr} {fd : FuncData} (F : Fun K "judge" "judge" sJ f fd) (hlen : mg "len" = none) (FT : FaultTxt K mg CF fI) (TP : TxP K CP) (k128 : ∃ t, mg "LONGEST" = some (.int 128 t)) (k2 : ∃ t, mg "TOO_LONG" = some (.int (-2) t)) (k6 : ∃ t, mg "NOT_IN_FORM" = some (.int (-6) t))
    (G1 : GOk P w K mg base (L2N.CX P w) 10 "read_pattern" ["given"] (spRead K CF CP cs)) : FnOk P w K mg base CX0 11 f fd ["p"] (spCall K) := by
  obtain ⟨f1, fd1, gg1, kp1, b1, G1⟩ := G1.ofN
  refine F.ok scJ (fun vs H Q E h => ?_) (fun cdv A outer s H vs Q E hr h => ⟨_, pss_cons (ps_if (pt_cmpR op_gt (pe_callB call_len_seq (by rfl) hlen PySem.boot_len (pa_cons (pv 0) pa_nil)) (pe_gi k128) (nomark _)) (pss_one (ps_ret (pe_lst (pa_cons (pe_gi k2) pa_nil)))) pss_nil)
      (pss_cons (ps_try_as (i := 2) (tb := fun W => tAsg (tCallS (spRead K CF CP cs) (WE W) (tCons (tVar 0) tNil)) (gName 1)) (ts := fun a cls d => tRet (tLst (tCons (tC (.int (-6))) (tCons (tXf a cls d CF "kind" (tVar 2)) (tCons (tXf a cls d CF "place" (tVar 2)) tNil))))) (Wout := fun _ _ _ _ => False) rfl rfl scJ.nd rfl rfl ⟨rfl, by decide, Or.inl FT.gC⟩ takes0
          (fun W pn xe tk _ => pss_one (ps_set (i := 1) scJ.nd rfl (Or.inl rfl) (by exact (pe_callS G1 hr rfl gg1 kp1 b1 (fun σ => passAt tk σ) (by exact (pa_cons (pv 0) pa_nil))))))
          (fun a oe cls d pn hz hf => pss_one (ps_ret (by exact (pe_lst (pa_cons (pe_gi k6) (pa_cons (pe_xf FT.xf FT.noK hz hf (pv 2)) (pa_cons (pe_xf FT.xf FT.noP hz hf (pv 2)) pa_nil))))))))
      (pss_one (ps_ret (pe_lst (pa_cons (pe_callB call_len_seq (by rfl) hlen PySem.boot_len (pa_cons (pe_fld (pv 1) rfl) pa_nil)) pa_nil))))), ?_⟩)
  · obtain ⟨_, _, rfl, _⟩ := h
    rfl
  obtain ⟨ag, g, rfl, sq, hl, hQ⟩ := h
  refine ⟨_, rfl, ag, _, rfl, .inl sq, _, _, rfl, rfl, _, rfl, ?_⟩
  unfold judgeL at hQ
  by_cases c : 128 < g.length
  · rw [if_pos c] at hQ
    refine if_true_of (decide_eq_true (by rw [gv_len]; omega)) ⟨by show 1 ≤ sizeLine; decide, fun p hp => ?_⟩
    exact hQ _ p upd_same
  · rw [if_neg c] at hQ
    refine if_false_of (decide_eq_false (by rw [gv_len]; omega)) ?_
    refine ⟨_, rfl, ?_⟩
    refine read_use sq (by omega) ?_
    cases er : PatWords.read g with
    | error e =>
      rw [er] at hQ
      intro d H' hd
      refine ⟨true, FT.te, fun _ a0 _ => ?_, fun q => Bool.noConfusion q⟩
      exact ⟨_, rfl, rfl, rfl, d, _, _, rfl, hd, faultF_kind _ _, _, rfl, rfl, rfl, d, _, _, rfl, hd, faultF_place _ _, by show 3 ≤ sizeLine; decide, fun p hp => hQ _ p upd_same⟩
    | ok y =>
      obtain ⟨pt, ns⟩ := y
      rw [er] at hQ
      intro H' pp dxp an b ts M' F' hP _
      refine ⟨_, rfl, pp, CP, dxp, _, _, rfl, hP.at_, TP.cl, TP.n1, lk_here, an, _, rfl, .inl (SqL.of hP.nl), by show 1 ≤ sizeLine; decide, fun p hp => ?_⟩
      rw [List.length_map, Nms.len hP.nm]
      exact hQ _ p upd_same
theorem judge_is (ns : List Int) : PyWrpatt.judge ns = judgeL (Neutral.text ns) := by
  show Neutral.told (PatSpec.answer (.judge (Neutral.text ns))) = _
  unfold PatSpec.answer judgeL
  dsimp only
  by_cases c : 128 < (Neutral.text ns).length
  · rw [if_pos c, if_pos (show PatWords.PATTERN < (Neutral.text ns).length from c)]
    rfl
  · rw [if_neg c, if_neg (show ¬ PatWords.PATTERN < (Neutral.text ns).length from c)]
    cases PatWords.read (Neutral.text ns) with
    | error e => rfl
    | ok y => rfl
end
end Pat
end

section
namespace Pat
open PySem PySem.Spec PyProof.Rows L2
open PySem.FaultX (FaultTxt)
theorem exm_self {K : PySem.W.Frag} {S : Addr} (h1 : PySem.W.subIn K (.ref S) (.type "BaseException") = some true) (h2 : PySem.W.isClsIn K S = true) (h3 : PySem.W.typeIn K (.ref S) = some (.type "type")) (h4 : PySem.W.subIn K (.ref S) (.ref S) = some true) :
    PySem.W.exmOne K (.ref S) (.ref S) = some true := by
  have e1 : (PySem.W.subIn K (.ref S) (.type "BaseException") == some true) = true := by rw [h1] <;> rfl
  have e2 : ((PySem.W.clsIn K S).isSome && PySem.W.typeIn K (.ref S) == some (.type "type")) = true := by
    have h2' : (PySem.W.clsIn K S).isSome = true := h2
    rw [h2', h3] <;> rfl
  show (if (PySem.W.subIn K (.ref S) (.type "BaseException") == some true) = true then (if ((PySem.W.clsIn K S).isSome && PySem.W.typeIn K (.ref S) == some (.type "type")) = true then PySem.W.subIn K (.ref S) (.ref S) else none) else none) = some true
  rw [if_pos e1, if_pos e2]
  exact h4
theorem tup_k {K : PySem.W.Frag} {t : Addr} {its : Array Value} {n : Nat} {xs : List V} (h : K.lookup t = some ⟨.type "tuple", none, .seq its n, #[]⟩) (hz : its.size ≤ 1000) (v : Vals xs its.toList) (H : Hp) : SqT K H t xs :=
  .inr ⟨_, _, _, h, rfl, rfl, Nat.le_of_lt (small1000 hz), v⟩
theorem pair_k {K : PySem.W.Frag} {t : Addr} {a b : Int} {u v : Tok} {n : Nat} (h : K.lookup t = some ⟨.type "tuple", none, .seq #[.int a u, .int b v] n, #[]⟩) (H : Hp) : SqT K H t [.int a, .int b] :=
  tup_k (xs := [V.int a, V.int b]) h (by show 2 ≤ 1000; decide) (.cons ⟨_, rfl⟩ (.cons ⟨_, rfl⟩ .nil)) H

theorem all_mk {P : Program} {w : World} {K : PySem.W.Frag} {h : Heap} {mg : Str → Option Value} {fa C CB CP co cS cR cC cP cK CF fI d1 d2 d3 d4 d5 d6 d7 d8 d9 g1 g2 g3 g4 g5 g6 g7 g8 g9 g10 : Addr} (X : K.In h) (G : h.Ns mainGlobals mg) (hfa : mg "judge" = some (.ref fa))
    {f_R_init f_R_need_byte f_R_at f_R_take f_R_take_plain f_R_take_escape f_R_take_one f_R_take_part f_R_take_set f_R_take_escaped_atom f_R_take_single_atom f_R_take_number f_R_take_braces f_R_take_times f_R_take_repetition f_R_keep_name f_R_take_name f_R_take_opening f_R_take_closing f_R_take_next f_R_made_pattern f_B_init f_B_add_atom f_B_repeat_atom f_B_end_row f_B_made_part f_P_init f_o_init f_s_init f_r_init f_c_init f_p_init f_k_init f_just_one f_is_just_one f_every_value f_all_but f_listed_ranges f_row_of f_choice_of f_following_bytes f_scalar_at f_escape_ranges f_names_in f_read_pattern f_judge : Addr}
    {oc_R_init kV_R_init dc_R_init pm_R_init cd_R_init ct_R_init oc_R_need_byte kV_R_need_byte dc_R_need_byte pm_R_need_byte cd_R_need_byte ct_R_need_byte oc_R_at kV_R_at dc_R_at pm_R_at cd_R_at ct_R_at oc_R_take kV_R_take dc_R_take pm_R_take cd_R_take ct_R_take oc_R_take_plain kV_R_take_plain dc_R_take_plain pm_R_take_plain cd_R_take_plain ct_R_take_plain oc_R_take_escape kV_R_take_escape dc_R_take_escape pm_R_take_escape cd_R_take_escape ct_R_take_escape oc_R_take_one kV_R_take_one dc_R_take_one pm_R_take_one cd_R_take_one ct_R_take_one oc_R_take_part kV_R_take_part dc_R_take_part pm_R_take_part cd_R_take_part ct_R_take_part oc_R_take_set kV_R_take_set dc_R_take_set pm_R_take_set cd_R_take_set ct_R_take_set oc_R_take_escaped_atom kV_R_take_escaped_atom dc_R_take_escaped_atom pm_R_take_escaped_atom cd_R_take_escaped_atom ct_R_take_escaped_atom oc_R_take_single_atom kV_R_take_single_atom dc_R_take_single_atom pm_R_take_single_atom cd_R_take_single_atom ct_R_take_single_atom oc_R_take_number kV_R_take_number dc_R_take_number pm_R_take_number cd_R_take_number ct_R_take_number oc_R_take_braces kV_R_take_braces dc_R_take_braces pm_R_take_braces cd_R_take_braces ct_R_take_braces oc_R_take_times kV_R_take_times dc_R_take_times pm_R_take_times cd_R_take_times ct_R_take_times oc_R_take_repetition kV_R_take_repetition dc_R_take_repetition pm_R_take_repetition cd_R_take_repetition ct_R_take_repetition oc_R_keep_name kV_R_keep_name dc_R_keep_name pm_R_keep_name cd_R_keep_name ct_R_keep_name oc_R_take_name kV_R_take_name dc_R_take_name pm_R_take_name cd_R_take_name ct_R_take_name oc_R_take_opening kV_R_take_opening dc_R_take_opening pm_R_take_opening cd_R_take_opening ct_R_take_opening oc_R_take_closing kV_R_take_closing dc_R_take_closing pm_R_take_closing cd_R_take_closing ct_R_take_closing oc_R_take_next kV_R_take_next dc_R_take_next pm_R_take_next cd_R_take_next ct_R_take_next oc_R_made_pattern kV_R_made_pattern dc_R_made_pattern pm_R_made_pattern cd_R_made_pattern ct_R_made_pattern oc_B_init kV_B_init dc_B_init pm_B_init cd_B_init ct_B_init oc_B_add_atom kV_B_add_atom dc_B_add_atom pm_B_add_atom cd_B_add_atom ct_B_add_atom oc_B_repeat_atom kV_B_repeat_atom dc_B_repeat_atom pm_B_repeat_atom cd_B_repeat_atom ct_B_repeat_atom oc_B_end_row kV_B_end_row dc_B_end_row pm_B_end_row cd_B_end_row ct_B_end_row oc_B_made_part kV_B_made_part dc_B_made_part pm_B_made_part cd_B_made_part ct_B_made_part oc_P_init kV_P_init dc_P_init pm_P_init cd_P_init ct_P_init oc_o_init kV_o_init dc_o_init pm_o_init cd_o_init ct_o_init oc_s_init kV_s_init dc_s_init pm_s_init cd_s_init ct_s_init oc_r_init kV_r_init dc_r_init pm_r_init cd_r_init ct_r_init oc_c_init kV_c_init dc_c_init pm_c_init cd_c_init ct_c_init oc_p_init kV_p_init dc_p_init pm_p_init cd_p_init ct_p_init oc_k_init kV_k_init dc_k_init pm_k_init cd_k_init ct_k_init oc_just_one kV_just_one dc_just_one pm_just_one cd_just_one ct_just_one oc_is_just_one kV_is_just_one dc_is_just_one pm_is_just_one cd_is_just_one ct_is_just_one oc_every_value kV_every_value dc_every_value pm_every_value cd_every_value ct_every_value oc_all_but kV_all_but dc_all_but pm_all_but cd_all_but ct_all_but oc_listed_ranges kV_listed_ranges dc_listed_ranges pm_listed_ranges cd_listed_ranges ct_listed_ranges oc_row_of kV_row_of dc_row_of pm_row_of cd_row_of ct_row_of oc_choice_of kV_choice_of dc_choice_of pm_choice_of cd_choice_of ct_choice_of oc_following_bytes kV_following_bytes dc_following_bytes pm_following_bytes cd_following_bytes ct_following_bytes oc_scalar_at kV_scalar_at dc_scalar_at pm_scalar_at cd_scalar_at ct_scalar_at oc_escape_ranges kV_escape_ranges dc_escape_ranges pm_escape_ranges cd_escape_ranges ct_escape_ranges oc_names_in kV_names_in dc_names_in pm_names_in cd_names_in ct_names_in oc_read_pattern kV_read_pattern dc_read_pattern pm_read_pattern cd_read_pattern ct_read_pattern oc_judge kV_judge dc_judge pm_judge cd_judge ct_judge oc1FT dc1FT pm1FT cd1FT ct1FT : Value}
    {od_R_init an_R_init od_R_need_byte an_R_need_byte od_R_at an_R_at od_R_take an_R_take od_R_take_plain an_R_take_plain od_R_take_escape an_R_take_escape od_R_take_one an_R_take_one od_R_take_part an_R_take_part od_R_take_set an_R_take_set od_R_take_escaped_atom an_R_take_escaped_atom od_R_take_single_atom an_R_take_single_atom od_R_take_number an_R_take_number od_R_take_braces an_R_take_braces od_R_take_times an_R_take_times od_R_take_repetition an_R_take_repetition od_R_keep_name an_R_keep_name od_R_take_name an_R_take_name od_R_take_opening an_R_take_opening od_R_take_closing an_R_take_closing od_R_take_next an_R_take_next od_R_made_pattern an_R_made_pattern od_B_init an_B_init od_B_add_atom an_B_add_atom od_B_repeat_atom an_B_repeat_atom od_B_end_row an_B_end_row od_B_made_part an_B_made_part od_P_init an_P_init od_o_init an_o_init od_s_init an_s_init od_r_init an_r_init od_c_init an_c_init od_p_init an_p_init od_k_init an_k_init od_just_one an_just_one od_is_just_one an_is_just_one od_every_value an_every_value od_all_but an_all_but od_listed_ranges an_listed_ranges od_row_of an_row_of od_choice_of an_choice_of od_following_bytes an_following_bytes od_scalar_at an_scalar_at od_escape_ranges an_escape_ranges od_names_in an_names_in od_read_pattern an_read_pattern od_judge an_judge od1FT an1FT : Option Addr}
    {sl_R_init sl_R_need_byte sl_R_at sl_R_take sl_R_take_plain sl_R_take_escape sl_R_take_one sl_R_take_part sl_R_take_set sl_R_take_escaped_atom sl_R_take_single_atom sl_R_take_number sl_R_take_braces sl_R_take_times sl_R_take_repetition sl_R_keep_name sl_R_take_name sl_R_take_opening sl_R_take_closing sl_R_take_next sl_R_made_pattern sl_B_init sl_B_add_atom sl_B_repeat_atom sl_B_end_row sl_B_made_part sl_P_init sl_o_init sl_s_init sl_r_init sl_c_init sl_p_init sl_k_init sl_just_one sl_is_just_one sl_every_value sl_all_but sl_listed_ranges sl_row_of sl_choice_of sl_following_bytes sl_scalar_at sl_escape_ranges sl_names_in sl_read_pattern sl_judge sl1FT : Array (Option Value)}
    {nmFT qFT : Str} {NFT : Addr} {bsFT : List Value} {snFT : List Str} {subFT : List Value} {abFT : Bool} {colFT : Option Bool} {ddFT : Option Addr} {m0FT m1FT m2FT m3FT m5FT : Option Value}
    {e1 e2 e3 e4 e5 e6 e7 e8 e9 e10 e11 e12 e13 e14 e15 e16 e17 e18 e19 : Nat}
    {t_ENDS_TOO_SOON t_CANNOT_STAND t_NUMBER_OUT_OF_RANGE t_NAME_REFUSED t_TOO_MANY_OPEN t_ENDS_IN_WRONG_ORDER t_TOO_MANY_ATOMS t_MOST_TIMES t_MOST_NAMES t_LONGEST_NAME t_MOST_OPEN t_MOST_ATOMS t_LONGEST t_TOO_LONG t_NOT_IN_FORM t_GREATEST t_FIGURES t_SMALL_LETTERS t_NAME_SIGNS t_SIGNS t_SET_SIGNS t_END_ESCAPES t_PART_ESCAPES t_ATOM_ESCAPES t_LISTED_ESCAPES u1 u2 u3 u4 u5 u6 u7 u8 u9 u10 u11 u12 u13 u14 u15 u16 u17 u18 u19 u20 u21 u22 u23 u24 u25 u26 u27 u28 u29 u30 u31 u32 u33 u34 u35 u36 u37 u38 u39 u40 : Tok}
    (aR : PySem.W.nsIn K mainGlobals "Reader" = some (some (.ref C)))
    (pgR : PySem.W.plainGet K C Str.empty = true)
    (hdR : PySem.W.hasDictIn K C = true)
    (poR : PySem.W.plainOver K C = true)
    (saR : PySem.W.findIn K (.ref C) "__setattr__" = some (some (.builtin "object.__setattr__")))
    (mkR : PySem.W.makesIn K C = true)
    (kcR : PySem.W.keepIn K (.ref C) = true)
    (nR_given : PySem.W.findIn K (.ref C) "given" = some none)
    (nR_place : PySem.W.findIn K (.ref C) "place" = some none)
    (nR_names : PySem.W.findIn K (.ref C) "names" = some none)
    (nR_brackets : PySem.W.findIn K (.ref C) "brackets" = some none)
    (a_R_init : PySem.W.findIn K (.ref C) "__init__" = some (some (.ref f_R_init)))
    (i_R_init : PySem.W.isFn K (.ref f_R_init) = true)
    (l_R_init : K.lookup f_R_init = some ⟨oc_R_init, od_R_init, .func (PySem.W.fnOf "__init__" "Reader.__init__" (defArgs (sR 0)) (defBody (sR 0)) (defScope (sR 0)) .none kV_R_init dc_R_init pm_R_init an_R_init cd_R_init ct_R_init), sl_R_init⟩)
    (c_R_init : PySem.W.codeIn K cd_R_init "Reader.__init__" = true)
    (k_R_init : PySem.W.keepIn K (.ref f_R_init) = true)
    (a_R_need_byte : PySem.W.findIn K (.ref C) "need_byte" = some (some (.ref f_R_need_byte)))
    (i_R_need_byte : PySem.W.isFn K (.ref f_R_need_byte) = true)
    (l_R_need_byte : K.lookup f_R_need_byte = some ⟨oc_R_need_byte, od_R_need_byte, .func (PySem.W.fnOf "need_byte" "Reader.need_byte" (defArgs (sR 1)) (defBody (sR 1)) (defScope (sR 1)) .none kV_R_need_byte dc_R_need_byte pm_R_need_byte an_R_need_byte cd_R_need_byte ct_R_need_byte), sl_R_need_byte⟩)
    (c_R_need_byte : PySem.W.codeIn K cd_R_need_byte "Reader.need_byte" = true)
    (k_R_need_byte : PySem.W.keepIn K (.ref f_R_need_byte) = true)
    (a_R_at : PySem.W.findIn K (.ref C) "at" = some (some (.ref f_R_at)))
    (i_R_at : PySem.W.isFn K (.ref f_R_at) = true)
    (l_R_at : K.lookup f_R_at = some ⟨oc_R_at, od_R_at, .func (PySem.W.fnOf "at" "Reader.at" (defArgs (sR 2)) (defBody (sR 2)) (defScope (sR 2)) .none kV_R_at dc_R_at pm_R_at an_R_at cd_R_at ct_R_at), sl_R_at⟩)
    (c_R_at : PySem.W.codeIn K cd_R_at "Reader.at" = true)
    (k_R_at : PySem.W.keepIn K (.ref f_R_at) = true)
    (a_R_take : PySem.W.findIn K (.ref C) "take" = some (some (.ref f_R_take)))
    (i_R_take : PySem.W.isFn K (.ref f_R_take) = true)
    (l_R_take : K.lookup f_R_take = some ⟨oc_R_take, od_R_take, .func (PySem.W.fnOf "take" "Reader.take" (defArgs (sR 3)) (defBody (sR 3)) (defScope (sR 3)) .none kV_R_take dc_R_take pm_R_take an_R_take cd_R_take ct_R_take), sl_R_take⟩)
    (c_R_take : PySem.W.codeIn K cd_R_take "Reader.take" = true)
    (k_R_take : PySem.W.keepIn K (.ref f_R_take) = true)
    (a_R_take_plain : PySem.W.findIn K (.ref C) "take_plain" = some (some (.ref f_R_take_plain)))
    (i_R_take_plain : PySem.W.isFn K (.ref f_R_take_plain) = true)
    (l_R_take_plain : K.lookup f_R_take_plain = some ⟨oc_R_take_plain, od_R_take_plain, .func (PySem.W.fnOf "take_plain" "Reader.take_plain" (defArgs (sR 4)) (defBody (sR 4)) (defScope (sR 4)) .none kV_R_take_plain dc_R_take_plain pm_R_take_plain an_R_take_plain cd_R_take_plain ct_R_take_plain), sl_R_take_plain⟩)
    (c_R_take_plain : PySem.W.codeIn K cd_R_take_plain "Reader.take_plain" = true)
    (k_R_take_plain : PySem.W.keepIn K (.ref f_R_take_plain) = true)
    (a_R_take_escape : PySem.W.findIn K (.ref C) "take_escape" = some (some (.ref f_R_take_escape)))
    (i_R_take_escape : PySem.W.isFn K (.ref f_R_take_escape) = true)
    (l_R_take_escape : K.lookup f_R_take_escape = some ⟨oc_R_take_escape, od_R_take_escape, .func (PySem.W.fnOf "take_escape" "Reader.take_escape" (defArgs (sR 5)) (defBody (sR 5)) (defScope (sR 5)) .none kV_R_take_escape dc_R_take_escape pm_R_take_escape an_R_take_escape cd_R_take_escape ct_R_take_escape), sl_R_take_escape⟩)
    (c_R_take_escape : PySem.W.codeIn K cd_R_take_escape "Reader.take_escape" = true)
    (k_R_take_escape : PySem.W.keepIn K (.ref f_R_take_escape) = true)
    (a_R_take_one : PySem.W.findIn K (.ref C) "take_one" = some (some (.ref f_R_take_one)))
    (i_R_take_one : PySem.W.isFn K (.ref f_R_take_one) = true)
    (l_R_take_one : K.lookup f_R_take_one = some ⟨oc_R_take_one, od_R_take_one, .func (PySem.W.fnOf "take_one" "Reader.take_one" (defArgs (sR 6)) (defBody (sR 6)) (defScope (sR 6)) .none kV_R_take_one dc_R_take_one pm_R_take_one an_R_take_one cd_R_take_one ct_R_take_one), sl_R_take_one⟩)
    (c_R_take_one : PySem.W.codeIn K cd_R_take_one "Reader.take_one" = true)
    (k_R_take_one : PySem.W.keepIn K (.ref f_R_take_one) = true)
    (a_R_take_part : PySem.W.findIn K (.ref C) "take_part" = some (some (.ref f_R_take_part)))
    (i_R_take_part : PySem.W.isFn K (.ref f_R_take_part) = true)
    (l_R_take_part : K.lookup f_R_take_part = some ⟨oc_R_take_part, od_R_take_part, .func (PySem.W.fnOf "take_part" "Reader.take_part" (defArgs (sR 7)) (defBody (sR 7)) (defScope (sR 7)) .none kV_R_take_part dc_R_take_part pm_R_take_part an_R_take_part cd_R_take_part ct_R_take_part), sl_R_take_part⟩)
    (c_R_take_part : PySem.W.codeIn K cd_R_take_part "Reader.take_part" = true)
    (k_R_take_part : PySem.W.keepIn K (.ref f_R_take_part) = true)
    (a_R_take_set : PySem.W.findIn K (.ref C) "take_set" = some (some (.ref f_R_take_set)))
    (i_R_take_set : PySem.W.isFn K (.ref f_R_take_set) = true)
    (l_R_take_set : K.lookup f_R_take_set = some ⟨oc_R_take_set, od_R_take_set, .func (PySem.W.fnOf "take_set" "Reader.take_set" (defArgs (sR 8)) (defBody (sR 8)) (defScope (sR 8)) .none kV_R_take_set dc_R_take_set pm_R_take_set an_R_take_set cd_R_take_set ct_R_take_set), sl_R_take_set⟩)
    (c_R_take_set : PySem.W.codeIn K cd_R_take_set "Reader.take_set" = true)
    (k_R_take_set : PySem.W.keepIn K (.ref f_R_take_set) = true)
    (a_R_take_escaped_atom : PySem.W.findIn K (.ref C) "take_escaped_atom" = some (some (.ref f_R_take_escaped_atom)))
    (i_R_take_escaped_atom : PySem.W.isFn K (.ref f_R_take_escaped_atom) = true)
    (l_R_take_escaped_atom : K.lookup f_R_take_escaped_atom = some ⟨oc_R_take_escaped_atom, od_R_take_escaped_atom, .func (PySem.W.fnOf "take_escaped_atom" "Reader.take_escaped_atom" (defArgs (sR 9)) (defBody (sR 9)) (defScope (sR 9)) .none kV_R_take_escaped_atom dc_R_take_escaped_atom pm_R_take_escaped_atom an_R_take_escaped_atom cd_R_take_escaped_atom ct_R_take_escaped_atom), sl_R_take_escaped_atom⟩)
    (c_R_take_escaped_atom : PySem.W.codeIn K cd_R_take_escaped_atom "Reader.take_escaped_atom" = true)
    (k_R_take_escaped_atom : PySem.W.keepIn K (.ref f_R_take_escaped_atom) = true)
    (a_R_take_single_atom : PySem.W.findIn K (.ref C) "take_single_atom" = some (some (.ref f_R_take_single_atom)))
    (i_R_take_single_atom : PySem.W.isFn K (.ref f_R_take_single_atom) = true)
    (l_R_take_single_atom : K.lookup f_R_take_single_atom = some ⟨oc_R_take_single_atom, od_R_take_single_atom, .func (PySem.W.fnOf "take_single_atom" "Reader.take_single_atom" (defArgs (sR 10)) (defBody (sR 10)) (defScope (sR 10)) .none kV_R_take_single_atom dc_R_take_single_atom pm_R_take_single_atom an_R_take_single_atom cd_R_take_single_atom ct_R_take_single_atom), sl_R_take_single_atom⟩)
    (c_R_take_single_atom : PySem.W.codeIn K cd_R_take_single_atom "Reader.take_single_atom" = true)
    (k_R_take_single_atom : PySem.W.keepIn K (.ref f_R_take_single_atom) = true)
    (a_R_take_number : PySem.W.findIn K (.ref C) "take_number" = some (some (.ref f_R_take_number)))
    (i_R_take_number : PySem.W.isFn K (.ref f_R_take_number) = true)
    (l_R_take_number : K.lookup f_R_take_number = some ⟨oc_R_take_number, od_R_take_number, .func (PySem.W.fnOf "take_number" "Reader.take_number" (defArgs (sR 11)) (defBody (sR 11)) (defScope (sR 11)) .none kV_R_take_number dc_R_take_number pm_R_take_number an_R_take_number cd_R_take_number ct_R_take_number), sl_R_take_number⟩)
    (c_R_take_number : PySem.W.codeIn K cd_R_take_number "Reader.take_number" = true)
    (k_R_take_number : PySem.W.keepIn K (.ref f_R_take_number) = true)
    (a_R_take_braces : PySem.W.findIn K (.ref C) "take_braces" = some (some (.ref f_R_take_braces)))
    (i_R_take_braces : PySem.W.isFn K (.ref f_R_take_braces) = true)
    (l_R_take_braces : K.lookup f_R_take_braces = some ⟨oc_R_take_braces, od_R_take_braces, .func (PySem.W.fnOf "take_braces" "Reader.take_braces" (defArgs (sR 12)) (defBody (sR 12)) (defScope (sR 12)) .none kV_R_take_braces dc_R_take_braces pm_R_take_braces an_R_take_braces cd_R_take_braces ct_R_take_braces), sl_R_take_braces⟩)
    (c_R_take_braces : PySem.W.codeIn K cd_R_take_braces "Reader.take_braces" = true)
    (k_R_take_braces : PySem.W.keepIn K (.ref f_R_take_braces) = true)
    (a_R_take_times : PySem.W.findIn K (.ref C) "take_times" = some (some (.ref f_R_take_times)))
    (i_R_take_times : PySem.W.isFn K (.ref f_R_take_times) = true)
    (l_R_take_times : K.lookup f_R_take_times = some ⟨oc_R_take_times, od_R_take_times, .func (PySem.W.fnOf "take_times" "Reader.take_times" (defArgs (sR 13)) (defBody (sR 13)) (defScope (sR 13)) .none kV_R_take_times dc_R_take_times pm_R_take_times an_R_take_times cd_R_take_times ct_R_take_times), sl_R_take_times⟩)
    (c_R_take_times : PySem.W.codeIn K cd_R_take_times "Reader.take_times" = true)
    (k_R_take_times : PySem.W.keepIn K (.ref f_R_take_times) = true)
    (a_R_take_repetition : PySem.W.findIn K (.ref C) "take_repetition" = some (some (.ref f_R_take_repetition)))
    (i_R_take_repetition : PySem.W.isFn K (.ref f_R_take_repetition) = true)
    (l_R_take_repetition : K.lookup f_R_take_repetition = some ⟨oc_R_take_repetition, od_R_take_repetition, .func (PySem.W.fnOf "take_repetition" "Reader.take_repetition" (defArgs (sR 14)) (defBody (sR 14)) (defScope (sR 14)) .none kV_R_take_repetition dc_R_take_repetition pm_R_take_repetition an_R_take_repetition cd_R_take_repetition ct_R_take_repetition), sl_R_take_repetition⟩)
    (c_R_take_repetition : PySem.W.codeIn K cd_R_take_repetition "Reader.take_repetition" = true)
    (k_R_take_repetition : PySem.W.keepIn K (.ref f_R_take_repetition) = true)
    (a_R_keep_name : PySem.W.findIn K (.ref C) "keep_name" = some (some (.ref f_R_keep_name)))
    (i_R_keep_name : PySem.W.isFn K (.ref f_R_keep_name) = true)
    (l_R_keep_name : K.lookup f_R_keep_name = some ⟨oc_R_keep_name, od_R_keep_name, .func (PySem.W.fnOf "keep_name" "Reader.keep_name" (defArgs (sR 15)) (defBody (sR 15)) (defScope (sR 15)) .none kV_R_keep_name dc_R_keep_name pm_R_keep_name an_R_keep_name cd_R_keep_name ct_R_keep_name), sl_R_keep_name⟩)
    (c_R_keep_name : PySem.W.codeIn K cd_R_keep_name "Reader.keep_name" = true)
    (k_R_keep_name : PySem.W.keepIn K (.ref f_R_keep_name) = true)
    (a_R_take_name : PySem.W.findIn K (.ref C) "take_name" = some (some (.ref f_R_take_name)))
    (i_R_take_name : PySem.W.isFn K (.ref f_R_take_name) = true)
    (l_R_take_name : K.lookup f_R_take_name = some ⟨oc_R_take_name, od_R_take_name, .func (PySem.W.fnOf "take_name" "Reader.take_name" (defArgs (sR 16)) (defBody (sR 16)) (defScope (sR 16)) .none kV_R_take_name dc_R_take_name pm_R_take_name an_R_take_name cd_R_take_name ct_R_take_name), sl_R_take_name⟩)
    (c_R_take_name : PySem.W.codeIn K cd_R_take_name "Reader.take_name" = true)
    (k_R_take_name : PySem.W.keepIn K (.ref f_R_take_name) = true)
    (a_R_take_opening : PySem.W.findIn K (.ref C) "take_opening" = some (some (.ref f_R_take_opening)))
    (i_R_take_opening : PySem.W.isFn K (.ref f_R_take_opening) = true)
    (l_R_take_opening : K.lookup f_R_take_opening = some ⟨oc_R_take_opening, od_R_take_opening, .func (PySem.W.fnOf "take_opening" "Reader.take_opening" (defArgs (sR 17)) (defBody (sR 17)) (defScope (sR 17)) .none kV_R_take_opening dc_R_take_opening pm_R_take_opening an_R_take_opening cd_R_take_opening ct_R_take_opening), sl_R_take_opening⟩)
    (c_R_take_opening : PySem.W.codeIn K cd_R_take_opening "Reader.take_opening" = true)
    (k_R_take_opening : PySem.W.keepIn K (.ref f_R_take_opening) = true)
    (a_R_take_closing : PySem.W.findIn K (.ref C) "take_closing" = some (some (.ref f_R_take_closing)))
    (i_R_take_closing : PySem.W.isFn K (.ref f_R_take_closing) = true)
    (l_R_take_closing : K.lookup f_R_take_closing = some ⟨oc_R_take_closing, od_R_take_closing, .func (PySem.W.fnOf "take_closing" "Reader.take_closing" (defArgs (sR 18)) (defBody (sR 18)) (defScope (sR 18)) .none kV_R_take_closing dc_R_take_closing pm_R_take_closing an_R_take_closing cd_R_take_closing ct_R_take_closing), sl_R_take_closing⟩)
    (c_R_take_closing : PySem.W.codeIn K cd_R_take_closing "Reader.take_closing" = true)
    (k_R_take_closing : PySem.W.keepIn K (.ref f_R_take_closing) = true)
    (a_R_take_next : PySem.W.findIn K (.ref C) "take_next" = some (some (.ref f_R_take_next)))
    (i_R_take_next : PySem.W.isFn K (.ref f_R_take_next) = true)
    (l_R_take_next : K.lookup f_R_take_next = some ⟨oc_R_take_next, od_R_take_next, .func (PySem.W.fnOf "take_next" "Reader.take_next" (defArgs (sR 19)) (defBody (sR 19)) (defScope (sR 19)) .none kV_R_take_next dc_R_take_next pm_R_take_next an_R_take_next cd_R_take_next ct_R_take_next), sl_R_take_next⟩)
    (c_R_take_next : PySem.W.codeIn K cd_R_take_next "Reader.take_next" = true)
    (k_R_take_next : PySem.W.keepIn K (.ref f_R_take_next) = true)
    (a_R_made_pattern : PySem.W.findIn K (.ref C) "made_pattern" = some (some (.ref f_R_made_pattern)))
    (i_R_made_pattern : PySem.W.isFn K (.ref f_R_made_pattern) = true)
    (l_R_made_pattern : K.lookup f_R_made_pattern = some ⟨oc_R_made_pattern, od_R_made_pattern, .func (PySem.W.fnOf "made_pattern" "Reader.made_pattern" (defArgs (sR 20)) (defBody (sR 20)) (defScope (sR 20)) .none kV_R_made_pattern dc_R_made_pattern pm_R_made_pattern an_R_made_pattern cd_R_made_pattern ct_R_made_pattern), sl_R_made_pattern⟩)
    (c_R_made_pattern : PySem.W.codeIn K cd_R_made_pattern "Reader.made_pattern" = true)
    (k_R_made_pattern : PySem.W.keepIn K (.ref f_R_made_pattern) = true)
    (aB : PySem.W.nsIn K mainGlobals "Bracket" = some (some (.ref CB)))
    (pgB : PySem.W.plainGet K CB Str.empty = true)
    (hdB : PySem.W.hasDictIn K CB = true)
    (poB : PySem.W.plainOver K CB = true)
    (saB : PySem.W.findIn K (.ref CB) "__setattr__" = some (some (.builtin "object.__setattr__")))
    (mkB : PySem.W.makesIn K CB = true)
    (kcB : PySem.W.keepIn K (.ref CB) = true)
    (nB_closing : PySem.W.findIn K (.ref CB) "closing" = some none)
    (nB_number : PySem.W.findIn K (.ref CB) "number" = some none)
    (nB_rows : PySem.W.findIn K (.ref CB) "rows" = some none)
    (nB_atoms : PySem.W.findIn K (.ref CB) "atoms" = some none)
    (nB_last_atoms : PySem.W.findIn K (.ref CB) "last_atoms" = some none)
    (a_B_init : PySem.W.findIn K (.ref CB) "__init__" = some (some (.ref f_B_init)))
    (i_B_init : PySem.W.isFn K (.ref f_B_init) = true)
    (l_B_init : K.lookup f_B_init = some ⟨oc_B_init, od_B_init, .func (PySem.W.fnOf "__init__" "Bracket.__init__" (defArgs (sB 0)) (defBody (sB 0)) (defScope (sB 0)) .none kV_B_init dc_B_init pm_B_init an_B_init cd_B_init ct_B_init), sl_B_init⟩)
    (c_B_init : PySem.W.codeIn K cd_B_init "Bracket.__init__" = true)
    (k_B_init : PySem.W.keepIn K (.ref f_B_init) = true)
    (a_B_add_atom : PySem.W.findIn K (.ref CB) "add_atom" = some (some (.ref f_B_add_atom)))
    (i_B_add_atom : PySem.W.isFn K (.ref f_B_add_atom) = true)
    (l_B_add_atom : K.lookup f_B_add_atom = some ⟨oc_B_add_atom, od_B_add_atom, .func (PySem.W.fnOf "add_atom" "Bracket.add_atom" (defArgs (sB 1)) (defBody (sB 1)) (defScope (sB 1)) .none kV_B_add_atom dc_B_add_atom pm_B_add_atom an_B_add_atom cd_B_add_atom ct_B_add_atom), sl_B_add_atom⟩)
    (c_B_add_atom : PySem.W.codeIn K cd_B_add_atom "Bracket.add_atom" = true)
    (k_B_add_atom : PySem.W.keepIn K (.ref f_B_add_atom) = true)
    (a_B_repeat_atom : PySem.W.findIn K (.ref CB) "repeat_atom" = some (some (.ref f_B_repeat_atom)))
    (i_B_repeat_atom : PySem.W.isFn K (.ref f_B_repeat_atom) = true)
    (l_B_repeat_atom : K.lookup f_B_repeat_atom = some ⟨oc_B_repeat_atom, od_B_repeat_atom, .func (PySem.W.fnOf "repeat_atom" "Bracket.repeat_atom" (defArgs (sB 2)) (defBody (sB 2)) (defScope (sB 2)) .none kV_B_repeat_atom dc_B_repeat_atom pm_B_repeat_atom an_B_repeat_atom cd_B_repeat_atom ct_B_repeat_atom), sl_B_repeat_atom⟩)
    (c_B_repeat_atom : PySem.W.codeIn K cd_B_repeat_atom "Bracket.repeat_atom" = true)
    (k_B_repeat_atom : PySem.W.keepIn K (.ref f_B_repeat_atom) = true)
    (a_B_end_row : PySem.W.findIn K (.ref CB) "end_row" = some (some (.ref f_B_end_row)))
    (i_B_end_row : PySem.W.isFn K (.ref f_B_end_row) = true)
    (l_B_end_row : K.lookup f_B_end_row = some ⟨oc_B_end_row, od_B_end_row, .func (PySem.W.fnOf "end_row" "Bracket.end_row" (defArgs (sB 3)) (defBody (sB 3)) (defScope (sB 3)) .none kV_B_end_row dc_B_end_row pm_B_end_row an_B_end_row cd_B_end_row ct_B_end_row), sl_B_end_row⟩)
    (c_B_end_row : PySem.W.codeIn K cd_B_end_row "Bracket.end_row" = true)
    (k_B_end_row : PySem.W.keepIn K (.ref f_B_end_row) = true)
    (a_B_made_part : PySem.W.findIn K (.ref CB) "made_part" = some (some (.ref f_B_made_part)))
    (i_B_made_part : PySem.W.isFn K (.ref f_B_made_part) = true)
    (l_B_made_part : K.lookup f_B_made_part = some ⟨oc_B_made_part, od_B_made_part, .func (PySem.W.fnOf "made_part" "Bracket.made_part" (defArgs (sB 4)) (defBody (sB 4)) (defScope (sB 4)) .none kV_B_made_part dc_B_made_part pm_B_made_part an_B_made_part cd_B_made_part ct_B_made_part), sl_B_made_part⟩)
    (c_B_made_part : PySem.W.codeIn K cd_B_made_part "Bracket.made_part" = true)
    (k_B_made_part : PySem.W.keepIn K (.ref f_B_made_part) = true)
    (aP : PySem.W.nsIn K mainGlobals "Pattern" = some (some (.ref CP)))
    (pgP : PySem.W.plainGet K CP Str.empty = true)
    (hdP : PySem.W.hasDictIn K CP = true)
    (poP : PySem.W.plainOver K CP = true)
    (saP : PySem.W.findIn K (.ref CP) "__setattr__" = some (some (.builtin "object.__setattr__")))
    (mkP : PySem.W.makesIn K CP = true)
    (kcP : PySem.W.keepIn K (.ref CP) = true)
    (nP_names : PySem.W.findIn K (.ref CP) "names" = some none)
    (nP_body : PySem.W.findIn K (.ref CP) "body" = some none)
    (a_P_init : PySem.W.findIn K (.ref CP) "__init__" = some (some (.ref f_P_init)))
    (i_P_init : PySem.W.isFn K (.ref f_P_init) = true)
    (l_P_init : K.lookup f_P_init = some ⟨oc_P_init, od_P_init, .func (PySem.W.fnOf "__init__" "Pattern.__init__" (defArgs (inClass (top i_Pattern) 0)) (defBody (inClass (top i_Pattern) 0)) (defScope (inClass (top i_Pattern) 0)) .none kV_P_init dc_P_init pm_P_init an_P_init cd_P_init ct_P_init), sl_P_init⟩)
    (c_P_init : PySem.W.codeIn K cd_P_init "Pattern.__init__" = true)
    (k_P_init : PySem.W.keepIn K (.ref f_P_init) = true)
    (ao : PySem.W.nsIn K mainGlobals "OneValue" = some (some (.ref co)))
    (pgo : PySem.W.plainGet K co Str.empty = true)
    (hdo : PySem.W.hasDictIn K co = true)
    (poo : PySem.W.plainOver K co = true)
    (sao : PySem.W.findIn K (.ref co) "__setattr__" = some (some (.builtin "object.__setattr__")))
    (mko : PySem.W.makesIn K co = true)
    (kco : PySem.W.keepIn K (.ref co) = true)
    (no_ranges : PySem.W.findIn K (.ref co) "ranges" = some none)
    (no_inverted : PySem.W.findIn K (.ref co) "inverted" = some none)
    (no_reach : PySem.W.findIn K (.ref co) "reach" = some none)
    (a_o_init : PySem.W.findIn K (.ref co) "__init__" = some (some (.ref f_o_init)))
    (i_o_init : PySem.W.isFn K (.ref f_o_init) = true)
    (l_o_init : K.lookup f_o_init = some ⟨oc_o_init, od_o_init, .func (PySem.W.fnOf "__init__" "OneValue.__init__" (defArgs (sON 0)) (defBody (sON 0)) (defScope (sON 0)) .none kV_o_init dc_o_init pm_o_init an_o_init cd_o_init ct_o_init), sl_o_init⟩)
    (c_o_init : PySem.W.codeIn K cd_o_init "OneValue.__init__" = true)
    (k_o_init : PySem.W.keepIn K (.ref f_o_init) = true)
    (as : PySem.W.nsIn K mainGlobals "Standpoint" = some (some (.ref cS)))
    (pgs : PySem.W.plainGet K cS Str.empty = true)
    (hds : PySem.W.hasDictIn K cS = true)
    (pos : PySem.W.plainOver K cS = true)
    (sas : PySem.W.findIn K (.ref cS) "__setattr__" = some (some (.builtin "object.__setattr__")))
    (mks : PySem.W.makesIn K cS = true)
    (kcs : PySem.W.keepIn K (.ref cS) = true)
    (ns_sign : PySem.W.findIn K (.ref cS) "sign" = some none)
    (ns_reach : PySem.W.findIn K (.ref cS) "reach" = some none)
    (a_s_init : PySem.W.findIn K (.ref cS) "__init__" = some (some (.ref f_s_init)))
    (i_s_init : PySem.W.isFn K (.ref f_s_init) = true)
    (l_s_init : K.lookup f_s_init = some ⟨oc_s_init, od_s_init, .func (PySem.W.fnOf "__init__" "Standpoint.__init__" (defArgs (sSN 0)) (defBody (sSN 0)) (defScope (sSN 0)) .none kV_s_init dc_s_init pm_s_init an_s_init cd_s_init ct_s_init), sl_s_init⟩)
    (c_s_init : PySem.W.codeIn K cd_s_init "Standpoint.__init__" = true)
    (k_s_init : PySem.W.keepIn K (.ref f_s_init) = true)
    (ar : PySem.W.nsIn K mainGlobals "Row" = some (some (.ref cR)))
    (pgr : PySem.W.plainGet K cR Str.empty = true)
    (hdr : PySem.W.hasDictIn K cR = true)
    (por : PySem.W.plainOver K cR = true)
    (sar : PySem.W.findIn K (.ref cR) "__setattr__" = some (some (.builtin "object.__setattr__")))
    (mkr : PySem.W.makesIn K cR = true)
    (kcr : PySem.W.keepIn K (.ref cR) = true)
    (nr_steps : PySem.W.findIn K (.ref cR) "steps" = some none)
    (nr_reach : PySem.W.findIn K (.ref cR) "reach" = some none)
    (nr_reach_after : PySem.W.findIn K (.ref cR) "reach_after" = some none)
    (a_r_init : PySem.W.findIn K (.ref cR) "__init__" = some (some (.ref f_r_init)))
    (i_r_init : PySem.W.isFn K (.ref f_r_init) = true)
    (l_r_init : K.lookup f_r_init = some ⟨oc_r_init, od_r_init, .func (PySem.W.fnOf "__init__" "Row.__init__" (defArgs (sRN 0)) (defBody (sRN 0)) (defScope (sRN 0)) .none kV_r_init dc_r_init pm_r_init an_r_init cd_r_init ct_r_init), sl_r_init⟩)
    (c_r_init : PySem.W.codeIn K cd_r_init "Row.__init__" = true)
    (k_r_init : PySem.W.keepIn K (.ref f_r_init) = true)
    (ac : PySem.W.nsIn K mainGlobals "Choice" = some (some (.ref cC)))
    (pgc : PySem.W.plainGet K cC Str.empty = true)
    (hdc : PySem.W.hasDictIn K cC = true)
    (poc : PySem.W.plainOver K cC = true)
    (sac : PySem.W.findIn K (.ref cC) "__setattr__" = some (some (.builtin "object.__setattr__")))
    (mkc : PySem.W.makesIn K cC = true)
    (kcc : PySem.W.keepIn K (.ref cC) = true)
    (nc_rows : PySem.W.findIn K (.ref cC) "rows" = some none)
    (nc_reach : PySem.W.findIn K (.ref cC) "reach" = some none)
    (a_c_init : PySem.W.findIn K (.ref cC) "__init__" = some (some (.ref f_c_init)))
    (i_c_init : PySem.W.isFn K (.ref f_c_init) = true)
    (l_c_init : K.lookup f_c_init = some ⟨oc_c_init, od_c_init, .func (PySem.W.fnOf "__init__" "Choice.__init__" (defArgs (sCN 0)) (defBody (sCN 0)) (defScope (sCN 0)) .none kV_c_init dc_c_init pm_c_init an_c_init cd_c_init ct_c_init), sl_c_init⟩)
    (c_c_init : PySem.W.codeIn K cd_c_init "Choice.__init__" = true)
    (k_c_init : PySem.W.keepIn K (.ref f_c_init) = true)
    (ap : PySem.W.nsIn K mainGlobals "Repetition" = some (some (.ref cP)))
    (pgp : PySem.W.plainGet K cP Str.empty = true)
    (hdp : PySem.W.hasDictIn K cP = true)
    (pop : PySem.W.plainOver K cP = true)
    (sap : PySem.W.findIn K (.ref cP) "__setattr__" = some (some (.builtin "object.__setattr__")))
    (mkp : PySem.W.makesIn K cP = true)
    (kcp : PySem.W.keepIn K (.ref cP) = true)
    (np_body : PySem.W.findIn K (.ref cP) "body" = some none)
    (np_least : PySem.W.findIn K (.ref cP) "least" = some none)
    (np_most : PySem.W.findIn K (.ref cP) "most" = some none)
    (np_reach : PySem.W.findIn K (.ref cP) "reach" = some none)
    (np_reach_after : PySem.W.findIn K (.ref cP) "reach_after" = some none)
    (a_p_init : PySem.W.findIn K (.ref cP) "__init__" = some (some (.ref f_p_init)))
    (i_p_init : PySem.W.isFn K (.ref f_p_init) = true)
    (l_p_init : K.lookup f_p_init = some ⟨oc_p_init, od_p_init, .func (PySem.W.fnOf "__init__" "Repetition.__init__" (defArgs (sPN 0)) (defBody (sPN 0)) (defScope (sPN 0)) .none kV_p_init dc_p_init pm_p_init an_p_init cd_p_init ct_p_init), sl_p_init⟩)
    (c_p_init : PySem.W.codeIn K cd_p_init "Repetition.__init__" = true)
    (k_p_init : PySem.W.keepIn K (.ref f_p_init) = true)
    (ak : PySem.W.nsIn K mainGlobals "Capture" = some (some (.ref cK)))
    (pgk : PySem.W.plainGet K cK Str.empty = true)
    (hdk : PySem.W.hasDictIn K cK = true)
    (pok : PySem.W.plainOver K cK = true)
    (sak : PySem.W.findIn K (.ref cK) "__setattr__" = some (some (.builtin "object.__setattr__")))
    (mkk : PySem.W.makesIn K cK = true)
    (kck : PySem.W.keepIn K (.ref cK) = true)
    (nk_number : PySem.W.findIn K (.ref cK) "number" = some none)
    (nk_body : PySem.W.findIn K (.ref cK) "body" = some none)
    (nk_reach : PySem.W.findIn K (.ref cK) "reach" = some none)
    (a_k_init : PySem.W.findIn K (.ref cK) "__init__" = some (some (.ref f_k_init)))
    (i_k_init : PySem.W.isFn K (.ref f_k_init) = true)
    (l_k_init : K.lookup f_k_init = some ⟨oc_k_init, od_k_init, .func (PySem.W.fnOf "__init__" "Capture.__init__" (defArgs (sKN 0)) (defBody (sKN 0)) (defScope (sKN 0)) .none kV_k_init dc_k_init pm_k_init an_k_init cd_k_init ct_k_init), sl_k_init⟩)
    (c_k_init : PySem.W.codeIn K cd_k_init "Capture.__init__" = true)
    (k_k_init : PySem.W.keepIn K (.ref f_k_init) = true)
    (a_just_one : PySem.W.nsIn K mainGlobals "just_one" = some (some (.ref f_just_one)))
    (l_just_one : K.lookup f_just_one = some ⟨oc_just_one, od_just_one, .func (PySem.W.fnOf "just_one" "just_one" (defArgs (top i_just_one)) (defBody (top i_just_one)) (defScope (top i_just_one)) .none kV_just_one dc_just_one pm_just_one an_just_one cd_just_one ct_just_one), sl_just_one⟩)
    (c_just_one : PySem.W.codeIn K cd_just_one "just_one" = true)
    (k_just_one : PySem.W.keepIn K (.ref f_just_one) = true)
    (a_is_just_one : PySem.W.nsIn K mainGlobals "is_just_one" = some (some (.ref f_is_just_one)))
    (l_is_just_one : K.lookup f_is_just_one = some ⟨oc_is_just_one, od_is_just_one, .func (PySem.W.fnOf "is_just_one" "is_just_one" (defArgs (top i_is_just_one)) (defBody (top i_is_just_one)) (defScope (top i_is_just_one)) .none kV_is_just_one dc_is_just_one pm_is_just_one an_is_just_one cd_is_just_one ct_is_just_one), sl_is_just_one⟩)
    (c_is_just_one : PySem.W.codeIn K cd_is_just_one "is_just_one" = true)
    (k_is_just_one : PySem.W.keepIn K (.ref f_is_just_one) = true)
    (a_every_value : PySem.W.nsIn K mainGlobals "every_value" = some (some (.ref f_every_value)))
    (l_every_value : K.lookup f_every_value = some ⟨oc_every_value, od_every_value, .func (PySem.W.fnOf "every_value" "every_value" (defArgs (top i_every_value)) (defBody (top i_every_value)) (defScope (top i_every_value)) .none kV_every_value dc_every_value pm_every_value an_every_value cd_every_value ct_every_value), sl_every_value⟩)
    (c_every_value : PySem.W.codeIn K cd_every_value "every_value" = true)
    (k_every_value : PySem.W.keepIn K (.ref f_every_value) = true)
    (a_all_but : PySem.W.nsIn K mainGlobals "all_but" = some (some (.ref f_all_but)))
    (l_all_but : K.lookup f_all_but = some ⟨oc_all_but, od_all_but, .func (PySem.W.fnOf "all_but" "all_but" (defArgs (top i_all_but)) (defBody (top i_all_but)) (defScope (top i_all_but)) .none kV_all_but dc_all_but pm_all_but an_all_but cd_all_but ct_all_but), sl_all_but⟩)
    (c_all_but : PySem.W.codeIn K cd_all_but "all_but" = true)
    (k_all_but : PySem.W.keepIn K (.ref f_all_but) = true)
    (a_listed_ranges : PySem.W.nsIn K mainGlobals "listed_ranges" = some (some (.ref f_listed_ranges)))
    (l_listed_ranges : K.lookup f_listed_ranges = some ⟨oc_listed_ranges, od_listed_ranges, .func (PySem.W.fnOf "listed_ranges" "listed_ranges" (defArgs (top i_listed_ranges)) (defBody (top i_listed_ranges)) (defScope (top i_listed_ranges)) .none kV_listed_ranges dc_listed_ranges pm_listed_ranges an_listed_ranges cd_listed_ranges ct_listed_ranges), sl_listed_ranges⟩)
    (c_listed_ranges : PySem.W.codeIn K cd_listed_ranges "listed_ranges" = true)
    (k_listed_ranges : PySem.W.keepIn K (.ref f_listed_ranges) = true)
    (a_row_of : PySem.W.nsIn K mainGlobals "row_of" = some (some (.ref f_row_of)))
    (l_row_of : K.lookup f_row_of = some ⟨oc_row_of, od_row_of, .func (PySem.W.fnOf "row_of" "row_of" (defArgs (top i_row_of)) (defBody (top i_row_of)) (defScope (top i_row_of)) .none kV_row_of dc_row_of pm_row_of an_row_of cd_row_of ct_row_of), sl_row_of⟩)
    (c_row_of : PySem.W.codeIn K cd_row_of "row_of" = true)
    (k_row_of : PySem.W.keepIn K (.ref f_row_of) = true)
    (a_choice_of : PySem.W.nsIn K mainGlobals "choice_of" = some (some (.ref f_choice_of)))
    (l_choice_of : K.lookup f_choice_of = some ⟨oc_choice_of, od_choice_of, .func (PySem.W.fnOf "choice_of" "choice_of" (defArgs (top i_choice_of)) (defBody (top i_choice_of)) (defScope (top i_choice_of)) .none kV_choice_of dc_choice_of pm_choice_of an_choice_of cd_choice_of ct_choice_of), sl_choice_of⟩)
    (c_choice_of : PySem.W.codeIn K cd_choice_of "choice_of" = true)
    (k_choice_of : PySem.W.keepIn K (.ref f_choice_of) = true)
    (a_following_bytes : PySem.W.nsIn K mainGlobals "following_bytes" = some (some (.ref f_following_bytes)))
    (l_following_bytes : K.lookup f_following_bytes = some ⟨oc_following_bytes, od_following_bytes, .func (PySem.W.fnOf "following_bytes" "following_bytes" (defArgs (top i_following_bytes)) (defBody (top i_following_bytes)) (defScope (top i_following_bytes)) .none kV_following_bytes dc_following_bytes pm_following_bytes an_following_bytes cd_following_bytes ct_following_bytes), sl_following_bytes⟩)
    (c_following_bytes : PySem.W.codeIn K cd_following_bytes "following_bytes" = true)
    (k_following_bytes : PySem.W.keepIn K (.ref f_following_bytes) = true)
    (a_scalar_at : PySem.W.nsIn K mainGlobals "scalar_at" = some (some (.ref f_scalar_at)))
    (l_scalar_at : K.lookup f_scalar_at = some ⟨oc_scalar_at, od_scalar_at, .func (PySem.W.fnOf "scalar_at" "scalar_at" (defArgs (top i_scalar_at)) (defBody (top i_scalar_at)) (defScope (top i_scalar_at)) .none kV_scalar_at dc_scalar_at pm_scalar_at an_scalar_at cd_scalar_at ct_scalar_at), sl_scalar_at⟩)
    (c_scalar_at : PySem.W.codeIn K cd_scalar_at "scalar_at" = true)
    (k_scalar_at : PySem.W.keepIn K (.ref f_scalar_at) = true)
    (a_escape_ranges : PySem.W.nsIn K mainGlobals "escape_ranges" = some (some (.ref f_escape_ranges)))
    (l_escape_ranges : K.lookup f_escape_ranges = some ⟨oc_escape_ranges, od_escape_ranges, .func (PySem.W.fnOf "escape_ranges" "escape_ranges" (defArgs (top i_escape_ranges)) (defBody (top i_escape_ranges)) (defScope (top i_escape_ranges)) .none kV_escape_ranges dc_escape_ranges pm_escape_ranges an_escape_ranges cd_escape_ranges ct_escape_ranges), sl_escape_ranges⟩)
    (c_escape_ranges : PySem.W.codeIn K cd_escape_ranges "escape_ranges" = true)
    (k_escape_ranges : PySem.W.keepIn K (.ref f_escape_ranges) = true)
    (a_names_in : PySem.W.nsIn K mainGlobals "names_in" = some (some (.ref f_names_in)))
    (l_names_in : K.lookup f_names_in = some ⟨oc_names_in, od_names_in, .func (PySem.W.fnOf "names_in" "names_in" (defArgs (top i_names_in)) (defBody (top i_names_in)) (defScope (top i_names_in)) .none kV_names_in dc_names_in pm_names_in an_names_in cd_names_in ct_names_in), sl_names_in⟩)
    (c_names_in : PySem.W.codeIn K cd_names_in "names_in" = true)
    (k_names_in : PySem.W.keepIn K (.ref f_names_in) = true)
    (a_read_pattern : PySem.W.nsIn K mainGlobals "read_pattern" = some (some (.ref f_read_pattern)))
    (l_read_pattern : K.lookup f_read_pattern = some ⟨oc_read_pattern, od_read_pattern, .func (PySem.W.fnOf "read_pattern" "read_pattern" (defArgs (top i_read_pattern)) (defBody (top i_read_pattern)) (defScope (top i_read_pattern)) .none kV_read_pattern dc_read_pattern pm_read_pattern an_read_pattern cd_read_pattern ct_read_pattern), sl_read_pattern⟩)
    (c_read_pattern : PySem.W.codeIn K cd_read_pattern "read_pattern" = true)
    (k_read_pattern : PySem.W.keepIn K (.ref f_read_pattern) = true)
    (a_judge : PySem.W.nsIn K mainGlobals "judge" = some (some (.ref f_judge)))
    (l_judge : K.lookup f_judge = some ⟨oc_judge, od_judge, .func (PySem.W.fnOf "judge" "judge" (defArgs (top i_judge)) (defBody (top i_judge)) (defScope (top i_judge)) .none kV_judge dc_judge pm_judge an_judge cd_judge ct_judge), sl_judge⟩)
    (c_judge : PySem.W.codeIn K cd_judge "judge" = true)
    (k_judge : PySem.W.keepIn K (.ref f_judge) = true)
    (aFT : PySem.W.nsIn K mainGlobals "Fault" = some (some (.ref CF)))
    (xLFT : K.lookup CF = some (excClassObj nmFT qFT CF NFT bsFT [.type "Exception", .type "BaseException", .type "object"] true snFT subFT abFT colFT ddFT m0FT m1FT m2FT m3FT m5FT "Exception.__new__"))
    (saFT : PySem.W.findIn K (.ref CF) "__setattr__" = some (some (.builtin "object.__setattr__")))
    (gaFT : PySem.W.findIn K (.ref CF) "__getattribute__" = some (some (.builtin "BaseException.__getattribute__")))
    (ggFT : PySem.W.findIn K (.ref CF) "__getattr__" = some none)
    (nFT_kind : PySem.W.findIn K (.ref CF) "kind" = some none)
    (nFT_place : PySem.W.findIn K (.ref CF) "place" = some none)
    (a1FT : PySem.W.findIn K (.ref CF) "__init__" = some (some (.ref fI)))
    (t1FT : PySem.W.typeIn K (.ref fI) = some (.type "function"))
    (l1FT : K.lookup fI = some ⟨oc1FT, od1FT, .func (PySem.W.fnOf "__init__" "Fault.__init__" (PySem.FaultX.iA ⟨14, 17, 14, 21⟩ ⟨14, 23, 14, 27⟩ ⟨14, 29, 14, 34⟩) (PySem.FaultX.iB ⟨15, 8, 15, 12⟩ ⟨15, 8, 15, 17⟩ ⟨15, 20, 15, 24⟩ ⟨15, 8, 15, 24⟩ ⟨16, 8, 16, 12⟩ ⟨16, 8, 16, 18⟩ ⟨16, 21, 16, 26⟩ ⟨16, 8, 16, 26⟩) PySem.FaultX.iS .none .none dc1FT pm1FT an1FT cd1FT ct1FT), sl1FT⟩)
    (c1FT : PySem.W.codeIn K cd1FT "Fault.__init__" = true)
    (kCFT : PySem.W.keepIn K (.ref CF) = true)
    (eCFT : PySem.W.subIn K (.ref CF) (.type "BaseException") = some true)
    (tCFT : PySem.W.typeIn K (.ref CF) = some (.type "type"))
    (hCFT : PySem.W.hasDictIn K CF = true)
    (iCFT : PySem.W.isClsIn K CF = true)
    (sCFT : PySem.W.subIn K (.ref CF) (.ref CF) = some true)
    (v_ENDS_TOO_SOON : PySem.W.nsIn K mainGlobals "ENDS_TOO_SOON" = some (some (.int (1) t_ENDS_TOO_SOON)))
    (v_CANNOT_STAND : PySem.W.nsIn K mainGlobals "CANNOT_STAND" = some (some (.int (2) t_CANNOT_STAND)))
    (v_NUMBER_OUT_OF_RANGE : PySem.W.nsIn K mainGlobals "NUMBER_OUT_OF_RANGE" = some (some (.int (3) t_NUMBER_OUT_OF_RANGE)))
    (v_NAME_REFUSED : PySem.W.nsIn K mainGlobals "NAME_REFUSED" = some (some (.int (4) t_NAME_REFUSED)))
    (v_TOO_MANY_OPEN : PySem.W.nsIn K mainGlobals "TOO_MANY_OPEN" = some (some (.int (5) t_TOO_MANY_OPEN)))
    (v_ENDS_IN_WRONG_ORDER : PySem.W.nsIn K mainGlobals "ENDS_IN_WRONG_ORDER" = some (some (.int (6) t_ENDS_IN_WRONG_ORDER)))
    (v_TOO_MANY_ATOMS : PySem.W.nsIn K mainGlobals "TOO_MANY_ATOMS" = some (some (.int (7) t_TOO_MANY_ATOMS)))
    (v_MOST_TIMES : PySem.W.nsIn K mainGlobals "MOST_TIMES" = some (some (.int (20) t_MOST_TIMES)))
    (v_MOST_NAMES : PySem.W.nsIn K mainGlobals "MOST_NAMES" = some (some (.int (16) t_MOST_NAMES)))
    (v_LONGEST_NAME : PySem.W.nsIn K mainGlobals "LONGEST_NAME" = some (some (.int (32) t_LONGEST_NAME)))
    (v_MOST_OPEN : PySem.W.nsIn K mainGlobals "MOST_OPEN" = some (some (.int (40) t_MOST_OPEN)))
    (v_MOST_ATOMS : PySem.W.nsIn K mainGlobals "MOST_ATOMS" = some (some (.int (200) t_MOST_ATOMS)))
    (v_LONGEST : PySem.W.nsIn K mainGlobals "LONGEST" = some (some (.int (128) t_LONGEST)))
    (v_TOO_LONG : PySem.W.nsIn K mainGlobals "TOO_LONG" = some (some (.int (-2) t_TOO_LONG)))
    (v_NOT_IN_FORM : PySem.W.nsIn K mainGlobals "NOT_IN_FORM" = some (some (.int (-6) t_NOT_IN_FORM)))
    (v_GREATEST : PySem.W.nsIn K mainGlobals "GREATEST" = some (some (.int (1114111) t_GREATEST)))
    (v_FIGURES : PySem.W.nsIn K mainGlobals "FIGURES" = some (some (.str zFig t_FIGURES)))
    (v_SMALL_LETTERS : PySem.W.nsIn K mainGlobals "SMALL_LETTERS" = some (some (.str zSmall t_SMALL_LETTERS)))
    (v_NAME_SIGNS : PySem.W.nsIn K mainGlobals "NAME_SIGNS" = some (some (.str zName t_NAME_SIGNS)))
    (v_SIGNS : PySem.W.nsIn K mainGlobals "SIGNS" = some (some (.str zSigns t_SIGNS)))
    (v_SET_SIGNS : PySem.W.nsIn K mainGlobals "SET_SIGNS" = some (some (.str zSet t_SET_SIGNS)))
    (v_END_ESCAPES : PySem.W.nsIn K mainGlobals "END_ESCAPES" = some (some (.str zEnd t_END_ESCAPES)))
    (v_PART_ESCAPES : PySem.W.nsIn K mainGlobals "PART_ESCAPES" = some (some (.str zPart t_PART_ESCAPES)))
    (v_ATOM_ESCAPES : PySem.W.nsIn K mainGlobals "ATOM_ESCAPES" = some (some (.str zAtom t_ATOM_ESCAPES)))
    (v_LISTED_ESCAPES : PySem.W.nsIn K mainGlobals "LISTED_ESCAPES" = some (some (.str zCls t_LISTED_ESCAPES)))
    (v_len : PySem.W.nsIn K mainGlobals "len" = some none)
    (v_ord : PySem.W.nsIn K mainGlobals "ord" = some none)
    (v_range : PySem.W.nsIn K mainGlobals "range" = some none)
    (v_int : PySem.W.nsIn K mainGlobals "int" = some none)
    (v_max : PySem.W.nsIn K mainGlobals "max" = some none)
    (v_list : PySem.W.nsIn K mainGlobals "list" = some none)
    (dL : PySem.W.nsIn K mainGlobals "LOWEST_SECOND" = some (some (.ref d1)))
    (dLl : K.lookup d1 = some ⟨.type "dict", none, .dict #[⟨224, .int 224 u1, .int 160 u2⟩, ⟨240, .int 240 u3, .int 144 u4⟩] e1, #[]⟩)
    (dH : PySem.W.nsIn K mainGlobals "HIGHEST_SECOND" = some (some (.ref d2)))
    (dHl : K.lookup d2 = some ⟨.type "dict", none, .dict #[⟨237, .int 237 u5, .int 159 u6⟩, ⟨244, .int 244 u7, .int 143 u8⟩] e2, #[]⟩)
    (dC : PySem.W.nsIn K mainGlobals "CONTROL_VALUES" = some (some (.ref d3)))
    (dCl : K.lookup d3 = some ⟨.type "dict", none, .dict #[⟨PyData.keyHash w.params (sg 110), .str (sg 110) u9, .int 10 u10⟩, ⟨PyData.keyHash w.params (sg 116), .str (sg 116) u11, .int 9 u12⟩] e3, #[]⟩)
    (dM : PySem.W.nsIn K mainGlobals "FIRST_BYTE_MARKS" = some (some (.ref d4)))
    (dMl : K.lookup d4 = some ⟨.type "tuple", none, .seq #[.int 0 u13, .int 192 u14, .int 224 u15, .int 240 u16] e4, #[]⟩)
    (dR : PySem.W.nsIn K mainGlobals "LISTED_RANGES" = some (some (.ref d5)))
    (dRl : K.lookup d5 = some ⟨.type "dict", none, .dict #[⟨PyData.keyHash w.params (sg 100), .str (sg 100) u17, .ref d6⟩, ⟨PyData.keyHash w.params (sg 119), .str (sg 119) u18, .ref d7⟩, ⟨PyData.keyHash w.params (sg 115), .str (sg 115) u19, .ref d8⟩] e5, #[]⟩)
    (dR100 : PySem.W.nsIn K d5 (sg 100) = some (some (.ref d6)))
    (dR119 : PySem.W.nsIn K d5 (sg 119) = some (some (.ref d7)))
    (dR115 : PySem.W.nsIn K d5 (sg 115) = some (some (.ref d8)))
    (dR68 : PySem.W.nsIn K d5 (sg 68) = some none)
    (dR87 : PySem.W.nsIn K d5 (sg 87) = some none)
    (dR83 : PySem.W.nsIn K d5 (sg 83) = some none)
    (s_d6 : K.lookup d6 = some ⟨.type "tuple", none, .seq #[.ref g1] e6, #[]⟩)
    (s_g1 : K.lookup g1 = some ⟨.type "tuple", none, .seq #[.int 48 u20, .int 57 u21] e7, #[]⟩)
    (s_d7 : K.lookup d7 = some ⟨.type "tuple", none, .seq #[.ref g2, .ref g3, .ref g4, .ref g5] e8, #[]⟩)
    (s_g2 : K.lookup g2 = some ⟨.type "tuple", none, .seq #[.int 48 u22, .int 57 u23] e9, #[]⟩)
    (s_g3 : K.lookup g3 = some ⟨.type "tuple", none, .seq #[.int 65 u24, .int 90 u25] e10, #[]⟩)
    (s_g4 : K.lookup g4 = some ⟨.type "tuple", none, .seq #[.int 95 u26, .int 95 u27] e11, #[]⟩)
    (s_g5 : K.lookup g5 = some ⟨.type "tuple", none, .seq #[.int 97 u28, .int 122 u29] e12, #[]⟩)
    (s_d8 : K.lookup d8 = some ⟨.type "tuple", none, .seq #[.ref g6, .ref g7] e13, #[]⟩)
    (s_g6 : K.lookup g6 = some ⟨.type "tuple", none, .seq #[.int 9 u30, .int 13 u31] e14, #[]⟩)
    (s_g7 : K.lookup g7 = some ⟨.type "tuple", none, .seq #[.int 32 u32, .int 32 u33] e15, #[]⟩)
    (dP : PySem.W.nsIn K mainGlobals "REPETITIONS" = some (some (.ref d9)))
    (dPl : K.lookup d9 = some ⟨.type "dict", none, .dict #[⟨PyData.keyHash w.params (sg 42), .str (sg 42) u34, .ref g8⟩, ⟨PyData.keyHash w.params (sg 43), .str (sg 43) u35, .ref g9⟩, ⟨PyData.keyHash w.params (sg 63), .str (sg 63) u36, .ref g10⟩] e16, #[]⟩)
    (dP42 : PySem.W.nsIn K d9 (sg 42) = some (some (.ref g8)))
    (dP43 : PySem.W.nsIn K d9 (sg 43) = some (some (.ref g9)))
    (dP63 : PySem.W.nsIn K d9 (sg 63) = some (some (.ref g10)))
    (s_g8 : K.lookup g8 = some ⟨.type "tuple", none, .seq #[.int 0 u37, .none] e17, #[]⟩)
    (s_g9 : K.lookup g9 = some ⟨.type "tuple", none, .seq #[.int 1 u38, .none] e18, #[]⟩)
    (s_g10 : K.lookup g10 = some ⟨.type "tuple", none, .seq #[.int 0 u39, .int 1 u40] e19, #[]⟩)
    (lo1 : (d1 == sysModules) = false)
    (lo2 : (d2 == sysModules) = false)
    (lo3 : (d3 == sysModules) = false)
    (lo5 : (d5 == sysModules) = false)
    : ∃ fd : FuncData, (∀ (s : Shared) (us : List Value), us.length = (["p"] : List Str).length → BindsTo s fd ⟨us, []⟩ ((["p"] : List Str).zip us)) ∧ ∀ base : Heap, K.In base → base.Ns mainGlobals mg → FnOk P w K mg base CX0 11 fa fd ["p"] (spCall K) := by
  have e := hfa.symm.trans (PySem.W.mg_of X G a_judge)
  cases e
  have FT : FaultTxt K mg CF fI := { gC := PySem.W.mg_of X G aFT, cls := ⟨_, _, _, _, _, _, _, _, _, _, _, _, _, _, xLFT⟩, sa := saFT, xf := ⟨gaFT, ggFT, eCFT, hCFT⟩, noK := nFT_kind, noP := nFT_place, iC := a1FT, tC := t1FT, kC := kCFT, exC := eCFT, tyC := tCFT, te := exm_self eCFT iCFT tCFT sCFT, fn := ⟨_, _, _, _, _, _, _, _, _, _, _, _, _, _, _, _, _, _, _, l1FT, c1FT⟩ }
  have T : Txt K mg C CF fI := ⟨FT, ⟨pgR, hdR, poR, saR⟩, nR_given, nR_place, nR_names, nR_brackets, PySem.W.mg_none_of X G v_len, PySem.W.mg_none_of X G v_ord, ⟨_, PySem.W.mg_of X G v_ENDS_TOO_SOON⟩, ⟨_, PySem.W.mg_of X G v_CANNOT_STAND⟩⟩
  have TB : TxB K CB := ⟨⟨pgB, hdB, poB, saB⟩, nB_closing, nB_number, nB_rows, nB_atoms, nB_last_atoms⟩
  have TP : TxP K CP := ⟨⟨pgP, hdP, poP, saP⟩, nP_names, nP_body⟩
  obtain ⟨cs, hcs⟩ : ∃ cs : Cs, cs = ⟨co, cS, cR, cC, cP, cK⟩ := ⟨_, rfl⟩
  obtain rfl : cs.o = co := by rw [hcs]
  obtain rfl : cs.s = cS := by rw [hcs]
  obtain rfl : cs.r = cR := by rw [hcs]
  obtain rfl : cs.c = cC := by rw [hcs]
  obtain rfl : cs.p = cP := by rw [hcs]
  obtain rfl : cs.k = cK := by rw [hcs]
  clear hcs
  have TN : TxN K cs := { clo := ⟨pgo, hdo, poo, sao⟩, cls := ⟨pgs, hds, pos, sas⟩, clr := ⟨pgr, hdr, por, sar⟩, clc := ⟨pgc, hdc, poc, sac⟩, clp := ⟨pgp, hdp, pop, sap⟩, clk := ⟨pgk, hdk, pok, sak⟩, o1 := no_ranges, o2 := no_inverted, o3 := no_reach, s1 := ns_sign, s2 := ns_reach, r1 := nr_steps, r2 := nr_reach, r3 := nr_reach_after, c1 := nc_rows, c2 := nc_reach, p1 := np_body, p2 := np_least, p3 := np_most, p4 := np_reach, p5 := np_reach_after, k1 := nk_number, k2 := nk_body, k3 := nk_reach }
  have TS : TxS P w K mg CF fI f_following_bytes := { ft := FT, k1 := T.k1, k2 := T.k2, len := T.len, range := PySem.W.mg_none_of X G v_range, low := ⟨d1, PySem.W.mg_of X G dL, ⟨_, dLl, rfl, rfl⟩, fun i => kat_int lo1 dLl (by decide +kernel) (by decide +kernel) i⟩, high := ⟨d2, PySem.W.mg_of X G dH, ⟨_, dHl, rfl, rfl⟩, fun i => kat_int lo2 dHl (by decide +kernel) (by decide +kernel) i⟩, marks := ⟨d4, PySem.W.mg_of X G dM, fun H => .inr ⟨_, _, _, dMl, rfl, rfl, by show 4 ≤ sizeLine; decide, .cons ⟨_, rfl⟩ (.cons ⟨_, rfl⟩ (.cons ⟨_, rfl⟩ (.cons ⟨_, rfl⟩ .nil)))⟩⟩, gF := PySem.W.mg_of X G a_following_bytes, kF := k_following_bytes }
  have TE : TxE P w K mg := ⟨⟨_, PySem.W.mg_of X G v_LISTED_ESCAPES⟩, ⟨d3, PySem.W.mg_of X G dC, ⟨_, dCl, rfl, rfl⟩, fun i => kat_str lo3 dCl i⟩, T.ord⟩
  have lit5 : PySem.W.KeysLit w.params (#[⟨PyData.keyHash w.params (sg 100), .str (sg 100) _, .ref d6⟩, ⟨PyData.keyHash w.params (sg 119), .str (sg 119) _, .ref d7⟩, ⟨PyData.keyHash w.params (sg 115), .str (sg 115) _, .ref d8⟩] : Array DictEntry).toList := ⟨⟨_, u17, rfl, rfl⟩, ⟨_, u18, rfl, rfl⟩, ⟨_, u19, rfl, rfl⟩, trivial⟩
  have TL : TxL w K mg d5 _ e5 d6 d7 d8 := { at_ := PySem.W.mg_of X G dR, dic := ⟨dRl, lit5, lo5⟩, e1 := dR100, e2 := dR119, e3 := dR115, e4 := dR68, e5 := dR87, e6 := dR83, r1 := ⟨[g1], fun H => ⟨tup_k (xs := [V.ref g1]) s_d6 (by show 1 ≤ 1000; decide) (.cons rfl (.nil)) H, ⟨pair_k s_g1 H, trivial⟩⟩⟩, r2 := ⟨[g2, g3, g4, g5], fun H => ⟨tup_k (xs := [V.ref g2, V.ref g3, V.ref g4, V.ref g5]) s_d7 (by show 4 ≤ 1000; decide) (.cons rfl (.cons rfl (.cons rfl (.cons rfl (.nil))))) H, ⟨pair_k s_g2 H, ⟨pair_k s_g3 H, ⟨pair_k s_g4 H, ⟨pair_k s_g5 H, trivial⟩⟩⟩⟩⟩⟩, r3 := ⟨[g6, g7], fun H => ⟨tup_k (xs := [V.ref g6, V.ref g7]) s_d8 (by show 2 ≤ 1000; decide) (.cons rfl (.cons rfl (.nil))) H, ⟨pair_k s_g6 H, ⟨pair_k s_g7 H, trivial⟩⟩⟩⟩, list := PySem.W.mg_none_of X G v_list }
  have TR : TxR w K mg d9 g8 g9 g10 := { at_ := PySem.W.mg_of X G dP, e1 := ⟨_, _, _, dPl, ⟨⟨_, _, rfl, rfl⟩, ⟨_, _, rfl, rfl⟩, ⟨_, _, rfl, rfl⟩, trivial⟩, dP42, rfl⟩, e2 := ⟨_, _, _, dPl, ⟨⟨_, _, rfl, rfl⟩, ⟨_, _, rfl, rfl⟩, ⟨_, _, rfl, rfl⟩, trivial⟩, dP43, rfl⟩, e3 := ⟨_, _, _, dPl, ⟨⟨_, _, rfl, rfl⟩, ⟨_, _, rfl, rfl⟩, ⟨_, _, rfl, rfl⟩, trivial⟩, dP63, rfl⟩, r1 := tup_k (xs := [V.int ((0 : Nat) : Int), optN none]) s_g8 (by show 2 ≤ 1000; decide) (.cons ⟨_, rfl⟩ (.cons rfl .nil)), r2 := tup_k (xs := [V.int ((1 : Nat) : Int), optN none]) s_g9 (by show 2 ≤ 1000; decide) (.cons ⟨_, rfl⟩ (.cons rfl .nil)), r3 := pair_k s_g10 }
  have F_R_init := fun_mk (st := (sR 0)) l_R_init c_R_init k_R_init
  have b_R_init := F_R_init.binds (ps := ["self", "given"]) fun _ _ _ _ _ _ us hl => match us, hl with | [_, _], _ => rfl
  have F_R_need_byte := fun_mk (st := (sR 1)) l_R_need_byte c_R_need_byte k_R_need_byte
  have b_R_need_byte := F_R_need_byte.binds (ps := ["self"]) fun _ _ _ _ _ _ us hl => match us, hl with | [_], _ => rfl
  have F_R_at := fun_mk (st := (sR 2)) l_R_at c_R_at k_R_at
  have b_R_at := F_R_at.binds (ps := ["self", "signs"]) fun _ _ _ _ _ _ us hl => match us, hl with | [_, _], _ => rfl
  have F_R_take := fun_mk (st := (sR 3)) l_R_take c_R_take k_R_take
  have b_R_take := F_R_take.binds (ps := ["self", "signs"]) fun _ _ _ _ _ _ us hl => match us, hl with | [_, _], _ => rfl
  have F_R_take_plain := fun_mk (st := (sR 4)) l_R_take_plain c_R_take_plain k_R_take_plain
  have b_R_take_plain := F_R_take_plain.binds (ps := ["self", "barred"]) fun _ _ _ _ _ _ us hl => match us, hl with | [_, _], _ => rfl
  have F_R_take_escape := fun_mk (st := (sR 5)) l_R_take_escape c_R_take_escape k_R_take_escape
  have b_R_take_escape := F_R_take_escape.binds (ps := ["self", "escapes"]) fun _ _ _ _ _ _ us hl => match us, hl with | [_, _], _ => rfl
  have F_R_take_one := fun_mk (st := (sR 6)) l_R_take_one c_R_take_one k_R_take_one
  have b_R_take_one := F_R_take_one.binds (ps := ["self", "escapes"]) fun _ _ _ _ _ _ us hl => match us, hl with | [_, _], _ => rfl
  have F_R_take_part := fun_mk (st := (sR 7)) l_R_take_part c_R_take_part k_R_take_part
  have b_R_take_part := F_R_take_part.binds (ps := ["self"]) fun _ _ _ _ _ _ us hl => match us, hl with | [_], _ => rfl
  have F_R_take_set := fun_mk (st := (sR 8)) l_R_take_set c_R_take_set k_R_take_set
  have b_R_take_set := F_R_take_set.binds (ps := ["self"]) fun _ _ _ _ _ _ us hl => match us, hl with | [_], _ => rfl
  have F_R_take_escaped_atom := fun_mk (st := (sR 9)) l_R_take_escaped_atom c_R_take_escaped_atom k_R_take_escaped_atom
  have b_R_take_escaped_atom := F_R_take_escaped_atom.binds (ps := ["self"]) fun _ _ _ _ _ _ us hl => match us, hl with | [_], _ => rfl
  have F_R_take_single_atom := fun_mk (st := (sR 10)) l_R_take_single_atom c_R_take_single_atom k_R_take_single_atom
  have b_R_take_single_atom := F_R_take_single_atom.binds (ps := ["self"]) fun _ _ _ _ _ _ us hl => match us, hl with | [_], _ => rfl
  have F_R_take_number := fun_mk (st := (sR 11)) l_R_take_number c_R_take_number k_R_take_number
  have b_R_take_number := F_R_take_number.binds (ps := ["self", "least"]) fun _ _ _ _ _ _ us hl => match us, hl with | [_, _], _ => rfl
  have F_R_take_braces := fun_mk (st := (sR 12)) l_R_take_braces c_R_take_braces k_R_take_braces
  have b_R_take_braces := F_R_take_braces.binds (ps := ["self"]) fun _ _ _ _ _ _ us hl => match us, hl with | [_], _ => rfl
  have F_R_take_times := fun_mk (st := (sR 13)) l_R_take_times c_R_take_times k_R_take_times
  have b_R_take_times := F_R_take_times.binds (ps := ["self"]) fun _ _ _ _ _ _ us hl => match us, hl with | [_], _ => rfl
  have F_R_take_repetition := fun_mk (st := (sR 14)) l_R_take_repetition c_R_take_repetition k_R_take_repetition
  have b_R_take_repetition := F_R_take_repetition.binds (ps := ["self"]) fun _ _ _ _ _ _ us hl => match us, hl with | [_], _ => rfl
  have F_R_keep_name := fun_mk (st := (sR 15)) l_R_keep_name c_R_keep_name k_R_keep_name
  have b_R_keep_name := F_R_keep_name.binds (ps := ["self", "first_place"]) fun _ _ _ _ _ _ us hl => match us, hl with | [_, _], _ => rfl
  have F_R_take_name := fun_mk (st := (sR 16)) l_R_take_name c_R_take_name k_R_take_name
  have b_R_take_name := F_R_take_name.binds (ps := ["self"]) fun _ _ _ _ _ _ us hl => match us, hl with | [_], _ => rfl
  have F_R_take_opening := fun_mk (st := (sR 17)) l_R_take_opening c_R_take_opening k_R_take_opening
  have b_R_take_opening := F_R_take_opening.binds (ps := ["self"]) fun _ _ _ _ _ _ us hl => match us, hl with | [_], _ => rfl
  have F_R_take_closing := fun_mk (st := (sR 18)) l_R_take_closing c_R_take_closing k_R_take_closing
  have b_R_take_closing := F_R_take_closing.binds (ps := ["self"]) fun _ _ _ _ _ _ us hl => match us, hl with | [_], _ => rfl
  have F_R_take_next := fun_mk (st := (sR 19)) l_R_take_next c_R_take_next k_R_take_next
  have b_R_take_next := F_R_take_next.binds (ps := ["self"]) fun _ _ _ _ _ _ us hl => match us, hl with | [_], _ => rfl
  have F_R_made_pattern := fun_mk (st := (sR 20)) l_R_made_pattern c_R_made_pattern k_R_made_pattern
  have b_R_made_pattern := F_R_made_pattern.binds (ps := ["self"]) fun _ _ _ _ _ _ us hl => match us, hl with | [_], _ => rfl
  have F_B_init := fun_mk (st := (sB 0)) l_B_init c_B_init k_B_init
  have b_B_init := F_B_init.binds (ps := ["self", "closing", "number"]) fun _ _ _ _ _ _ us hl => match us, hl with | [_, _, _], _ => rfl
  have F_B_add_atom := fun_mk (st := (sB 1)) l_B_add_atom c_B_add_atom k_B_add_atom
  have b_B_add_atom := F_B_add_atom.binds (ps := ["self", "part", "atoms"]) fun _ _ _ _ _ _ us hl => match us, hl with | [_, _, _], _ => rfl
  have F_B_repeat_atom := fun_mk (st := (sB 2)) l_B_repeat_atom c_B_repeat_atom k_B_repeat_atom
  have b_B_repeat_atom := F_B_repeat_atom.binds (ps := ["self", "least", "most"]) fun _ _ _ _ _ _ us hl => match us, hl with | [_, _, _], _ => rfl
  have F_B_end_row := fun_mk (st := (sB 3)) l_B_end_row c_B_end_row k_B_end_row
  have b_B_end_row := F_B_end_row.binds (ps := ["self"]) fun _ _ _ _ _ _ us hl => match us, hl with | [_], _ => rfl
  have F_B_made_part := fun_mk (st := (sB 4)) l_B_made_part c_B_made_part k_B_made_part
  have b_B_made_part := F_B_made_part.binds (ps := ["self"]) fun _ _ _ _ _ _ us hl => match us, hl with | [_], _ => rfl
  have F_P_init := fun_mk (st := (inClass (top i_Pattern) 0)) l_P_init c_P_init k_P_init
  have b_P_init := F_P_init.binds (ps := ["self", "names", "body"]) fun _ _ _ _ _ _ us hl => match us, hl with | [_, _, _], _ => rfl
  have F_o_init := fun_mk (st := (sON 0)) l_o_init c_o_init k_o_init
  have b_o_init := F_o_init.binds (ps := ["self", "ranges", "inverted"]) fun _ _ _ _ _ _ us hl => match us, hl with | [_, _, _], _ => rfl
  have F_s_init := fun_mk (st := (sSN 0)) l_s_init c_s_init k_s_init
  have b_s_init := F_s_init.binds (ps := ["self", "sign"]) fun _ _ _ _ _ _ us hl => match us, hl with | [_, _], _ => rfl
  have F_r_init := fun_mk (st := (sRN 0)) l_r_init c_r_init k_r_init
  have b_r_init := F_r_init.binds (ps := ["self", "steps"]) fun _ _ _ _ _ _ us hl => match us, hl with | [_, _], _ => rfl
  have F_c_init := fun_mk (st := (sCN 0)) l_c_init c_c_init k_c_init
  have b_c_init := F_c_init.binds (ps := ["self", "rows"]) fun _ _ _ _ _ _ us hl => match us, hl with | [_, _], _ => rfl
  have F_p_init := fun_mk (st := (sPN 0)) l_p_init c_p_init k_p_init
  have b_p_init := F_p_init.binds (ps := ["self", "body", "least", "most"]) fun _ _ _ _ _ _ us hl => match us, hl with | [_, _, _, _], _ => rfl
  have F_k_init := fun_mk (st := (sKN 0)) l_k_init c_k_init k_k_init
  have b_k_init := F_k_init.binds (ps := ["self", "number", "body"]) fun _ _ _ _ _ _ us hl => match us, hl with | [_, _, _], _ => rfl
  have F_just_one := fun_mk (st := (top i_just_one)) l_just_one c_just_one k_just_one
  have b_just_one := F_just_one.binds (ps := ["value"]) fun _ _ _ _ _ _ us hl => match us, hl with | [_], _ => rfl
  have F_is_just_one := fun_mk (st := (top i_is_just_one)) l_is_just_one c_is_just_one k_is_just_one
  have b_is_just_one := F_is_just_one.binds (ps := ["ranges"]) fun _ _ _ _ _ _ us hl => match us, hl with | [_], _ => rfl
  have F_every_value := fun_mk (st := (top i_every_value)) l_every_value c_every_value k_every_value
  have b_every_value := F_every_value.binds (ps := []) fun _ _ _ _ _ _ us hl => match us, hl with | [], _ => rfl
  have F_all_but := fun_mk (st := (top i_all_but)) l_all_but c_all_but k_all_but
  have b_all_but := F_all_but.binds (ps := ["ranges"]) fun _ _ _ _ _ _ us hl => match us, hl with | [_], _ => rfl
  have F_listed_ranges := fun_mk (st := (top i_listed_ranges)) l_listed_ranges c_listed_ranges k_listed_ranges
  have b_listed_ranges := F_listed_ranges.binds (ps := ["sign"]) fun _ _ _ _ _ _ us hl => match us, hl with | [_], _ => rfl
  have F_row_of := fun_mk (st := (top i_row_of)) l_row_of c_row_of k_row_of
  have b_row_of := F_row_of.binds (ps := ["steps"]) fun _ _ _ _ _ _ us hl => match us, hl with | [_], _ => rfl
  have F_choice_of := fun_mk (st := (top i_choice_of)) l_choice_of c_choice_of k_choice_of
  have b_choice_of := F_choice_of.binds (ps := ["rows"]) fun _ _ _ _ _ _ us hl => match us, hl with | [_], _ => rfl
  have F_following_bytes := fun_mk (st := (top i_following_bytes)) l_following_bytes c_following_bytes k_following_bytes
  have b_following_bytes := F_following_bytes.binds (ps := ["first"]) fun _ _ _ _ _ _ us hl => match us, hl with | [_], _ => rfl
  have F_scalar_at := fun_mk (st := (top i_scalar_at)) l_scalar_at c_scalar_at k_scalar_at
  have b_scalar_at := F_scalar_at.binds (ps := ["given", "place"]) fun _ _ _ _ _ _ us hl => match us, hl with | [_, _], _ => rfl
  have F_escape_ranges := fun_mk (st := (top i_escape_ranges)) l_escape_ranges c_escape_ranges k_escape_ranges
  have b_escape_ranges := F_escape_ranges.binds (ps := ["sign"]) fun _ _ _ _ _ _ us hl => match us, hl with | [_], _ => rfl
  have F_names_in := fun_mk (st := (top i_names_in)) l_names_in c_names_in k_names_in
  have b_names_in := F_names_in.binds (ps := ["given", "spots"]) fun _ _ _ _ _ _ us hl => match us, hl with | [_, _], _ => rfl
  have F_read_pattern := fun_mk (st := (top i_read_pattern)) l_read_pattern c_read_pattern k_read_pattern
  have b_read_pattern := F_read_pattern.binds (ps := ["given"]) fun _ _ _ _ _ _ us hl => match us, hl with | [_], _ => rfl
  have F_judge := fun_mk (st := (top i_judge)) l_judge c_judge k_judge
  have b_judge := F_judge.binds (ps := ["p"]) fun _ _ _ _ _ _ us hl => match us, hl with | [_], _ => rfl
  refine ⟨PySem.W.fnOf "judge" "judge" (defArgs sJ) (defBody sJ) (defScope sJ) .none kV_judge dc_judge pm_judge an_judge cd_judge ct_judge, fun s us hu => match us, hu with | [_], _ => .of_eq rfl, fun base _ _ => ?_⟩
  have G_just_one : GOk P w K mg base CX0 2 "just_one" ["value"] (spJust K) := ⟨_, _, PySem.W.mg_of X G a_just_one, k_just_one, b_just_one, ok_just F_just_one⟩
  have G_is_just_one : GOk P w K mg base CX0 2 "is_just_one" ["ranges"] (spIsJ K) := ⟨_, _, PySem.W.mg_of X G a_is_just_one, k_is_just_one, b_is_just_one, ok_isj F_is_just_one⟩
  have G_every_value : GOk P w K mg base CX0 2 "every_value" [] (spEvery K) := ⟨_, _, PySem.W.mg_of X G a_every_value, k_every_value, b_every_value, ok_every F_every_value ⟨_, PySem.W.mg_of X G v_GREATEST⟩⟩
  have G_all_but : GOk P w K mg base CX0 2 "all_but" ["ranges"] (spAllBut K) := ⟨_, _, PySem.W.mg_of X G a_all_but, k_all_but, b_all_but, ok_allbut F_all_but ⟨_, PySem.W.mg_of X G v_GREATEST⟩⟩
  have G_listed_ranges : GOk P w K mg base CX0 3 "listed_ranges" ["sign"] (spListed K) := ⟨_, _, PySem.W.mg_of X G a_listed_ranges, k_listed_ranges, b_listed_ranges, ok_listed F_listed_ranges TL G_all_but⟩
  have N_o : NOk P w K mg base cs.o 1 "OneValue" ["self", "ranges", "inverted"] (spOI cs) := ⟨_, _, ⟨mko, a_o_init, i_o_init, kco⟩, PySem.W.mg_of X G ao, b_o_init, ok_oi F_o_init TN⟩
  have N_s : NOk P w K mg base cs.s 1 "Standpoint" ["self", "sign"] (spSI cs) := ⟨_, _, ⟨mks, a_s_init, i_s_init, kcs⟩, PySem.W.mg_of X G as, b_s_init, ok_si F_s_init TN⟩
  have N_r : NOk P w K mg base cs.r 1 "Row" ["self", "steps"] (spRI cs) := ⟨_, _, ⟨mkr, a_r_init, i_r_init, kcr⟩, PySem.W.mg_of X G ar, b_r_init, ok_ri F_r_init TN⟩
  have N_c : NOk P w K mg base cs.c 1 "Choice" ["self", "rows"] (spCI cs) := ⟨_, _, ⟨mkc, a_c_init, i_c_init, kcc⟩, PySem.W.mg_of X G ac, b_c_init, ok_ci F_c_init TN⟩
  have N_p : NOk P w K mg base cs.p 1 "Repetition" ["self", "body", "least", "most"] (spPI cs) := ⟨_, _, ⟨mkp, a_p_init, i_p_init, kcp⟩, PySem.W.mg_of X G ap, b_p_init, ok_pi F_p_init TN⟩
  have N_k : NOk P w K mg base cs.k 1 "Capture" ["self", "number", "body"] (spKI cs) := ⟨_, _, ⟨mkk, a_k_init, i_k_init, kck⟩, PySem.W.mg_of X G ak, b_k_init, ok_ki F_k_init TN⟩
  have N_B : NOk P w K mg base CB 1 "Bracket" ["self", "closing", "number"] (spBInit CB) := ⟨_, _, ⟨mkB, a_B_init, i_B_init, kcB⟩, PySem.W.mg_of X G aB, b_B_init, ok_binit F_B_init TB⟩
  have N_P : NOk P w K mg base CP 1 "Pattern" ["self", "names", "body"] (spPInit CP) := ⟨_, _, ⟨mkP, a_P_init, i_P_init, kcP⟩, PySem.W.mg_of X G aP, b_P_init, ok_pinit F_P_init TP⟩
  have G_row_of : GOk P w K mg base CX0 3 "row_of" ["steps"] (spRowOf cs) := ⟨_, _, PySem.W.mg_of X G a_row_of, k_row_of, b_row_of, ok_rowof F_row_of T.len N_r⟩
  have G_choice_of : GOk P w K mg base CX0 3 "choice_of" ["rows"] (spChOf cs) := ⟨_, _, PySem.W.mg_of X G a_choice_of, k_choice_of, b_choice_of, ok_chof F_choice_of T.len N_c⟩
  have M_B_add_atom : MOk P w K mg base CX0 CB 1 "add_atom" ["self", "part", "atoms"] (spBAdd CB) := ⟨_, _, ⟨a_B_add_atom, i_B_add_atom, k_B_add_atom⟩, b_B_add_atom, ok_badd F_B_add_atom TB⟩
  have M_B_repeat_atom : MOk P w K mg base CX0 CB 4 "repeat_atom" ["self", "least", "most"] (spBRep CB cs) := ⟨_, _, ⟨a_B_repeat_atom, i_B_repeat_atom, k_B_repeat_atom⟩, b_B_repeat_atom, ok_brep F_B_repeat_atom TB (PySem.W.mg_none_of X G v_max) N_p⟩
  have M_B_end_row : MOk P w K mg base CX0 CB 1 "end_row" ["self"] (spBEnd CB) := ⟨_, _, ⟨a_B_end_row, i_B_end_row, k_B_end_row⟩, b_B_end_row, ok_bend F_B_end_row TB⟩
  have M_B_made_part : MOk P w K mg base CX0 CB 4 "made_part" ["self"] (spMade K CB cs) := ⟨_, _, ⟨a_B_made_part, i_B_made_part, k_B_made_part⟩, b_B_made_part, ok_made F_B_made_part TB G_row_of G_choice_of N_k⟩
  have M_R_need_byte : MOk P w K mg base (L2N.CX P w) C 2 "need_byte" ["self"] (spNeed K C CF) := ⟨_, _, ⟨a_R_need_byte, i_R_need_byte, k_R_need_byte⟩, b_R_need_byte, ok_need F_R_need_byte T⟩
  have M_R_at : MOk P w K mg base CX0 C 2 "at" ["self", "signs"] (spAt K C) := ⟨_, _, ⟨a_R_at, i_R_at, k_R_at⟩, b_R_at, ok_at F_R_at T⟩
  have M_R_take : MOk P w K mg base (L2N.CX P w) C 3 "take" ["self", "signs"] (spTake K C CF) := ⟨_, _, ⟨a_R_take, i_R_take, k_R_take⟩, b_R_take, ok_take F_R_take T M_R_need_byte⟩
  have G_fb : FnOk P w K mg base CX0 2 f_following_bytes _ ["first"] spFB := ok_fb F_following_bytes
  have G_scalar_at : GOk P w K mg base (L2N.CX P w) 3 "scalar_at" ["given", "place"] (spSA K CF) := ⟨_, _, PySem.W.mg_of X G a_scalar_at, k_scalar_at, b_scalar_at, ok_sa F_scalar_at TS G_fb b_following_bytes⟩
  have G_escape_ranges : GOk P w K mg base CX0 4 "escape_ranges" ["sign"] (spEsc K) := ⟨_, _, PySem.W.mg_of X G a_escape_ranges, k_escape_ranges, b_escape_ranges, ok_esc F_escape_ranges TE G_listed_ranges G_just_one⟩
  have G_names_in : GOk P w K mg base CX0 2 "names_in" ["given", "spots"] (spNmIn K) := ⟨_, _, PySem.W.mg_of X G a_names_in, k_names_in, b_names_in, ok_nmin F_names_in⟩
  have M_R_take_plain : MOk P w K mg base (L2N.CX P w) C 4 "take_plain" ["self", "barred"] (spPlain K C CF) := ⟨_, _, ⟨a_R_take_plain, i_R_take_plain, k_R_take_plain⟩, b_R_take_plain, ok_plain F_R_take_plain T M_R_need_byte M_R_at G_scalar_at G_just_one⟩
  have M_R_take_escape : MOk P w K mg base (L2N.CX P w) C 4 "take_escape" ["self", "escapes"] (spEscape K C CF) := ⟨_, _, ⟨a_R_take_escape, i_R_take_escape, k_R_take_escape⟩, b_R_take_escape, ok_escape F_R_take_escape T M_R_take⟩
  have M_R_take_one : MOk P w K mg base (L2N.CX P w) C 5 "take_one" ["self", "escapes"] (spOne K C CF) := ⟨_, _, ⟨a_R_take_one, i_R_take_one, k_R_take_one⟩, b_R_take_one, ok_one F_R_take_one T ⟨_, PySem.W.mg_of X G v_SET_SIGNS⟩ M_R_at M_R_take_escape M_R_take_plain G_escape_ranges⟩
  have M_R_take_part : MOk P w K mg base (L2N.CX P w) C 6 "take_part" ["self"] (spGoR K C CF partE) := ⟨_, _, ⟨a_R_take_part, i_R_take_part, k_R_take_part⟩, b_R_take_part, ok_part F_R_take_part T ⟨_, PySem.W.mg_of X G v_PART_ESCAPES⟩ ⟨_, PySem.W.mg_of X G v_END_ESCAPES⟩ ⟨_, PySem.W.mg_of X G v_ENDS_IN_WRONG_ORDER⟩ M_R_at M_R_take_one M_R_take G_is_just_one⟩
  have M_R_take_set : MOk P w K mg base (L2N.CX P w) C 7 "take_set" ["self"] (spSet K C CF cs) := ⟨_, _, ⟨a_R_take_set, i_R_take_set, k_R_take_set⟩, b_R_take_set, ok_set F_R_take_set T M_R_at M_R_take_part M_R_take N_o⟩
  have M_R_take_escaped_atom : MOk P w K mg base (L2N.CX P w) C 5 "take_escaped_atom" ["self"] (spEscA K C CF cs) := ⟨_, _, ⟨a_R_take_escaped_atom, i_R_take_escaped_atom, k_R_take_escaped_atom⟩, b_R_take_escaped_atom, ok_escA F_R_take_escaped_atom T ⟨_, PySem.W.mg_of X G v_ATOM_ESCAPES⟩ M_R_take_escape G_escape_ranges N_o N_s⟩
  have M_R_take_single_atom : MOk P w K mg base (L2N.CX P w) C 8 "take_single_atom" ["self"] (spSingle K C CF cs) := ⟨_, _, ⟨a_R_take_single_atom, i_R_take_single_atom, k_R_take_single_atom⟩, b_R_take_single_atom, ok_single F_R_take_single_atom T ⟨_, PySem.W.mg_of X G v_SIGNS⟩ M_R_at M_R_take_set M_R_take_escaped_atom M_R_take M_R_take_plain G_every_value N_o N_s⟩
  have M_R_take_number : MOk P w K mg base (L2N.CX P w) C 4 "take_number" ["self", "least"] (spNum K C CF) := ⟨_, _, ⟨a_R_take_number, i_R_take_number, k_R_take_number⟩, b_R_take_number, ok_num F_R_take_number T ⟨_, PySem.W.mg_of X G v_FIGURES⟩ ⟨_, PySem.W.mg_of X G v_MOST_TIMES⟩ ⟨_, PySem.W.mg_of X G v_NUMBER_OUT_OF_RANGE⟩ (PySem.W.mg_none_of X G v_int) M_R_at M_R_take M_R_need_byte⟩
  have M_R_take_braces : MOk P w K mg base (L2N.CX P w) C 5 "take_braces" ["self"] (spBraces K C CF) := ⟨_, _, ⟨a_R_take_braces, i_R_take_braces, k_R_take_braces⟩, b_R_take_braces, ok_braces F_R_take_braces T M_R_at M_R_take M_R_take_number⟩
  have M_R_take_times : MOk P w K mg base (L2N.CX P w) C 6 "take_times" ["self"] (spTimes K C CF) := ⟨_, _, ⟨a_R_take_times, i_R_take_times, k_R_take_times⟩, b_R_take_times, ok_times F_R_take_times T TR M_R_at M_R_take_braces M_R_take⟩
  have M_R_take_repetition : MOk P w K mg base (L2N.CX P w) C 7 "take_repetition" ["self"] (spRepS K C CB CF cs) := ⟨_, _, ⟨a_R_take_repetition, i_R_take_repetition, k_R_take_repetition⟩, b_R_take_repetition, ok_repS F_R_take_repetition T TB M_R_take_times M_B_repeat_atom⟩
  have M_R_keep_name : MOk P w K mg base (L2N.CX P w) C 3 "keep_name" ["self", "first_place"] (spKeep K C CB CF cs) := ⟨_, _, ⟨a_R_keep_name, i_R_keep_name, k_R_keep_name⟩, b_R_keep_name, ok_keep F_R_keep_name T ⟨_, PySem.W.mg_of X G v_LONGEST_NAME⟩ ⟨_, PySem.W.mg_of X G v_MOST_NAMES⟩ ⟨_, PySem.W.mg_of X G v_NAME_REFUSED⟩ G_names_in⟩
  have M_R_take_name : MOk P w K mg base (L2N.CX P w) C 4 "take_name" ["self"] (spName K C CB CF cs) := ⟨_, _, ⟨a_R_take_name, i_R_take_name, k_R_take_name⟩, b_R_take_name, ok_name F_R_take_name T ⟨_, PySem.W.mg_of X G v_SMALL_LETTERS⟩ ⟨_, PySem.W.mg_of X G v_NAME_SIGNS⟩ M_R_at M_R_take M_R_need_byte M_R_keep_name⟩
  have M_R_take_opening : MOk P w K mg base (L2N.CX P w) C 5 "take_opening" ["self"] (spOpen K C CB CF cs) := ⟨_, _, ⟨a_R_take_opening, i_R_take_opening, k_R_take_opening⟩, b_R_take_opening, ok_open F_R_take_opening T ⟨_, PySem.W.mg_of X G v_MOST_OPEN⟩ ⟨_, PySem.W.mg_of X G v_TOO_MANY_OPEN⟩ N_B M_R_take M_R_take_name⟩
  have M_R_take_closing : MOk P w K mg base (L2N.CX P w) C 5 "take_closing" ["self"] (spClose K C CB CF cs) := ⟨_, _, ⟨a_R_take_closing, i_R_take_closing, k_R_take_closing⟩, b_R_take_closing, ok_close F_R_take_closing T TB M_R_take M_B_add_atom M_B_made_part⟩
  have M_R_take_next : MOk P w K mg base (L2N.CX P w) C 9 "take_next" ["self"] (spNext K C CB CF cs) := ⟨_, _, ⟨a_R_take_next, i_R_take_next, k_R_take_next⟩, b_R_take_next, ok_next F_R_take_next T TB M_R_at M_R_take M_B_end_row M_R_take_opening M_R_take_closing M_R_take_repetition M_R_take_single_atom M_B_add_atom⟩
  have M_R_made_pattern : MOk P w K mg base (L2N.CX P w) C 5 "made_pattern" ["self"] (spFin K C CB CF CP cs) := ⟨_, _, ⟨a_R_made_pattern, i_R_made_pattern, k_R_made_pattern⟩, b_R_made_pattern, ok_fin F_R_made_pattern T TB ⟨_, PySem.W.mg_of X G v_MOST_ATOMS⟩ ⟨_, PySem.W.mg_of X G v_TOO_MANY_ATOMS⟩ N_P M_B_made_part⟩
  have N_R : NOk P w K mg base C 3 "Reader" ["self", "given"] (spRInit K C CB cs) := ⟨_, _, ⟨mkR, a_R_init, i_R_init, kcR⟩, PySem.W.mg_of X G aR, b_R_init, ok_rinit F_R_init T N_B⟩
  have G_read_pattern : GOk P w K mg base (L2N.CX P w) 10 "read_pattern" ["given"] (spRead K CF CP cs) := ⟨_, _, PySem.W.mg_of X G a_read_pattern, k_read_pattern, b_read_pattern, ok_read F_read_pattern T N_R M_R_take_next M_R_made_pattern⟩
  exact ok_call F_judge T.len FT TP ⟨_, PySem.W.mg_of X G v_LONGEST⟩ ⟨_, PySem.W.mg_of X G v_TOO_LONG⟩ ⟨_, PySem.W.mg_of X G v_NOT_IN_FORM⟩ G_read_pattern
end Pat
end

section
namespace Pat
open PySem PySem.Spec PyProof.Rows L2
open PySem.W (Codec)
theorem text_gv : ∀ ns : List Int, (∀ x ∈ ns, 0 ≤ x ∧ x ≤ 255) → gv (Neutral.text ns) = ns.map V.int
  | [], _ => rfl
  | n :: r, h => by
    have h1 := h n (List.mem_cons_self ..)
    have ih := text_gv r fun x m => h x (List.mem_cons_of_mem _ m)
    show V.int (((UInt8.ofNat n.toNat).toNat : Nat) : Int) :: gv (Neutral.text r) = V.int n :: r.map V.int
    rw [ih]
    have e : (UInt8.ofNat n.toNat).toNat = n.toNat := by
      rw [UInt8.toNat_ofNat']
      omega
    have e2 : ((n.toNat : Nat) : Int) = n := Int.toNat_of_nonneg h1.1
    rw [e, e2]
theorem text_len (ns : List Int) : (Neutral.text ns).length = ns.length := List.length_map _
/-- one list of bytes that is handed in -/
theorem arg_list {K : PySem.W.Frag} {H : Hp} {ap : Addr} {l : List Int} (ha : SqL K H ap (l.map V.int)) (hb : (Codec.inLen 0 1000 l && l.all (Codec.inInt 0 255)) = true) : SqL K H ap (gv (Neutral.text l)) ∧ (Neutral.text l).length ≤ 1000 := by
  rw [Bool.and_eq_true] at hb
  have hb2 : ∀ x ∈ l, 0 ≤ x ∧ x ≤ 255 := fun x m => Codec.inInt_iff.mp (List.all_eq_true.mp hb.2 x m)
  refine ⟨by rw [text_gv l hb2]; exact ha, ?_⟩
  rw [text_len]
  exact (Codec.inNat_iff.mp hb.1).2
end Pat
open PySem PySem.W PyProof.Rows
theorem PySem.Challenge.cw_toldpatterns_s01_judge_holds : PySem.Challenge.rw_toldpatterns_s01_judge.Holds := by
  w_on; k_headS; (case hw => exact ⟨[.list []], by decide +kernel, by decide +kernel⟩)
  k_fillS
  refine L2.walk_specK (r := PySem.Challenge.rw_toldpatterns_s01_judge) (k := 11) (CX := L2.CX0) (ps := ["p"]) (sp := Pat.spCall) (by decide +kernel) rfl rfl ⟨rfl, by decide, by decide⟩ (fun w h Y => PySem.W.kIn_of Y) ?F ?S (fun _ _ _ _ z => z)
  case F =>
    intro w mg fa h Y KX G hmg
    refine' Pat.all_mk KX G hmg ?aR ?pgR ?hdR ?poR ?saR ?mkR ?kcR ?nR_given ?nR_place ?nR_names ?nR_brackets ?a_R_init ?i_R_init ?l_R_init ?c_R_init ?k_R_init ?a_R_need_byte ?i_R_need_byte ?l_R_need_byte ?c_R_need_byte ?k_R_need_byte ?a_R_at ?i_R_at ?l_R_at ?c_R_at ?k_R_at ?a_R_take ?i_R_take ?l_R_take ?c_R_take ?k_R_take ?a_R_take_plain ?i_R_take_plain ?l_R_take_plain ?c_R_take_plain ?k_R_take_plain ?a_R_take_escape ?i_R_take_escape ?l_R_take_escape ?c_R_take_escape ?k_R_take_escape ?a_R_take_one ?i_R_take_one ?l_R_take_one ?c_R_take_one ?k_R_take_one ?a_R_take_part ?i_R_take_part ?l_R_take_part ?c_R_take_part ?k_R_take_part ?a_R_take_set ?i_R_take_set ?l_R_take_set ?c_R_take_set ?k_R_take_set ?a_R_take_escaped_atom ?i_R_take_escaped_atom ?l_R_take_escaped_atom ?c_R_take_escaped_atom ?k_R_take_escaped_atom ?a_R_take_single_atom ?i_R_take_single_atom ?l_R_take_single_atom ?c_R_take_single_atom ?k_R_take_single_atom ?a_R_take_number ?i_R_take_number ?l_R_take_number ?c_R_take_number ?k_R_take_number ?a_R_take_braces ?i_R_take_braces ?l_R_take_braces ?c_R_take_braces ?k_R_take_braces ?a_R_take_times ?i_R_take_times ?l_R_take_times ?c_R_take_times ?k_R_take_times ?a_R_take_repetition ?i_R_take_repetition ?l_R_take_repetition ?c_R_take_repetition ?k_R_take_repetition ?a_R_keep_name ?i_R_keep_name ?l_R_keep_name ?c_R_keep_name ?k_R_keep_name ?a_R_take_name ?i_R_take_name ?l_R_take_name ?c_R_take_name ?k_R_take_name ?a_R_take_opening ?i_R_take_opening ?l_R_take_opening ?c_R_take_opening ?k_R_take_opening ?a_R_take_closing ?i_R_take_closing ?l_R_take_closing ?c_R_take_closing ?k_R_take_closing ?a_R_take_next ?i_R_take_next ?l_R_take_next ?c_R_take_next ?k_R_take_next ?a_R_made_pattern ?i_R_made_pattern ?l_R_made_pattern ?c_R_made_pattern ?k_R_made_pattern ?aB ?pgB ?hdB ?poB ?saB ?mkB ?kcB ?nB_closing ?nB_number ?nB_rows ?nB_atoms ?nB_last_atoms ?a_B_init ?i_B_init ?l_B_init ?c_B_init ?k_B_init ?a_B_add_atom ?i_B_add_atom ?l_B_add_atom ?c_B_add_atom ?k_B_add_atom ?a_B_repeat_atom ?i_B_repeat_atom ?l_B_repeat_atom ?c_B_repeat_atom ?k_B_repeat_atom ?a_B_end_row ?i_B_end_row ?l_B_end_row ?c_B_end_row ?k_B_end_row ?a_B_made_part ?i_B_made_part ?l_B_made_part ?c_B_made_part ?k_B_made_part ?aP ?pgP ?hdP ?poP ?saP ?mkP ?kcP ?nP_names ?nP_body ?a_P_init ?i_P_init ?l_P_init ?c_P_init ?k_P_init ?ao ?pgo ?hdo ?poo ?sao ?mko ?kco ?no_ranges ?no_inverted ?no_reach ?a_o_init ?i_o_init ?l_o_init ?c_o_init ?k_o_init ?as ?pgs ?hds ?pos ?sas ?mks ?kcs ?ns_sign ?ns_reach ?a_s_init ?i_s_init ?l_s_init ?c_s_init ?k_s_init ?ar ?pgr ?hdr ?por ?sar ?mkr ?kcr ?nr_steps ?nr_reach ?nr_reach_after ?a_r_init ?i_r_init ?l_r_init ?c_r_init ?k_r_init ?ac ?pgc ?hdc ?poc ?sac ?mkc ?kcc ?nc_rows ?nc_reach ?a_c_init ?i_c_init ?l_c_init ?c_c_init ?k_c_init ?ap ?pgp ?hdp ?pop ?sap ?mkp ?kcp ?np_body ?np_least ?np_most ?np_reach ?np_reach_after ?a_p_init ?i_p_init ?l_p_init ?c_p_init ?k_p_init ?ak ?pgk ?hdk ?pok ?sak ?mkk ?kck ?nk_number ?nk_body ?nk_reach ?a_k_init ?i_k_init ?l_k_init ?c_k_init ?k_k_init ?a_just_one ?l_just_one ?c_just_one ?k_just_one ?a_is_just_one ?l_is_just_one ?c_is_just_one ?k_is_just_one ?a_every_value ?l_every_value ?c_every_value ?k_every_value ?a_all_but ?l_all_but ?c_all_but ?k_all_but ?a_listed_ranges ?l_listed_ranges ?c_listed_ranges ?k_listed_ranges ?a_row_of ?l_row_of ?c_row_of ?k_row_of ?a_choice_of ?l_choice_of ?c_choice_of ?k_choice_of ?a_following_bytes ?l_following_bytes ?c_following_bytes ?k_following_bytes ?a_scalar_at ?l_scalar_at ?c_scalar_at ?k_scalar_at ?a_escape_ranges ?l_escape_ranges ?c_escape_ranges ?k_escape_ranges ?a_names_in ?l_names_in ?c_names_in ?k_names_in ?a_read_pattern ?l_read_pattern ?c_read_pattern ?k_read_pattern ?a_judge ?l_judge ?c_judge ?k_judge ?aFT ?xLFT ?saFT ?gaFT ?ggFT ?nFT_kind ?nFT_place ?a1FT ?t1FT ?l1FT ?c1FT ?kCFT ?eCFT ?tCFT ?hCFT ?iCFT ?sCFT ?v_ENDS_TOO_SOON ?v_CANNOT_STAND ?v_NUMBER_OUT_OF_RANGE ?v_NAME_REFUSED ?v_TOO_MANY_OPEN ?v_ENDS_IN_WRONG_ORDER ?v_TOO_MANY_ATOMS ?v_MOST_TIMES ?v_MOST_NAMES ?v_LONGEST_NAME ?v_MOST_OPEN ?v_MOST_ATOMS ?v_LONGEST ?v_TOO_LONG ?v_NOT_IN_FORM ?v_GREATEST ?v_FIGURES ?v_SMALL_LETTERS ?v_NAME_SIGNS ?v_SIGNS ?v_SET_SIGNS ?v_END_ESCAPES ?v_PART_ESCAPES ?v_ATOM_ESCAPES ?v_LISTED_ESCAPES ?v_len ?v_ord ?v_range ?v_int ?v_max ?v_list ?dL ?dLl ?dH ?dHl ?dC ?dCl ?dM ?dMl ?dR ?dRl ?dR100 ?dR119 ?dR115 ?dR68 ?dR87 ?dR83 ?s_d6 ?s_g1 ?s_d7 ?s_g2 ?s_g3 ?s_g4 ?s_g5 ?s_d8 ?s_g6 ?s_g7 ?dP ?dPl ?dP42 ?dP43 ?dP63 ?s_g8 ?s_g9 ?s_g10 ?lo1 ?lo2 ?lo3 ?lo5
    (case aR => k_is)
    (case pgR => k_is)
    (case hdR => k_is)
    (case poR => k_is)
    (case saR => k_is)
    (case mkR => k_is)
    (case kcR => k_is)
    (case nR_given => k_is)
    (case nR_place => k_is)
    (case nR_names => k_is)
    (case nR_brackets => k_is)
    (case a_R_init => k_is)
    (case i_R_init => k_is)
    (case l_R_init => k_is)
    (case c_R_init => k_is)
    (case k_R_init => k_is)
    (case a_R_need_byte => k_is)
    (case i_R_need_byte => k_is)
    (case l_R_need_byte => k_is)
    (case c_R_need_byte => k_is)
    (case k_R_need_byte => k_is)
    (case a_R_at => k_is)
    (case i_R_at => k_is)
    (case l_R_at => k_is)
    (case c_R_at => k_is)
    (case k_R_at => k_is)
    (case a_R_take => k_is)
    (case i_R_take => k_is)
    (case l_R_take => k_is)
    (case c_R_take => k_is)
    (case k_R_take => k_is)
    (case a_R_take_plain => k_is)
    (case i_R_take_plain => k_is)
    (case l_R_take_plain => k_is)
    (case c_R_take_plain => k_is)
    (case k_R_take_plain => k_is)
    (case a_R_take_escape => k_is)
    (case i_R_take_escape => k_is)
    (case l_R_take_escape => k_is)
    (case c_R_take_escape => k_is)
    (case k_R_take_escape => k_is)
    (case a_R_take_one => k_is)
    (case i_R_take_one => k_is)
    (case l_R_take_one => k_is)
    (case c_R_take_one => k_is)
    (case k_R_take_one => k_is)
    (case a_R_take_part => k_is)
    (case i_R_take_part => k_is)
    (case l_R_take_part => k_is)
    (case c_R_take_part => k_is)
    (case k_R_take_part => k_is)
    (case a_R_take_set => k_is)
    (case i_R_take_set => k_is)
    (case l_R_take_set => k_is)
    (case c_R_take_set => k_is)
    (case k_R_take_set => k_is)
    (case a_R_take_escaped_atom => k_is)
    (case i_R_take_escaped_atom => k_is)
    (case l_R_take_escaped_atom => k_is)
    (case c_R_take_escaped_atom => k_is)
    (case k_R_take_escaped_atom => k_is)
    (case a_R_take_single_atom => k_is)
    (case i_R_take_single_atom => k_is)
    (case l_R_take_single_atom => k_is)
    (case c_R_take_single_atom => k_is)
    (case k_R_take_single_atom => k_is)
    (case a_R_take_number => k_is)
    (case i_R_take_number => k_is)
    (case l_R_take_number => k_is)
    (case c_R_take_number => k_is)
    (case k_R_take_number => k_is)
    (case a_R_take_braces => k_is)
    (case i_R_take_braces => k_is)
    (case l_R_take_braces => k_is)
    (case c_R_take_braces => k_is)
    (case k_R_take_braces => k_is)
    (case a_R_take_times => k_is)
    (case i_R_take_times => k_is)
    (case l_R_take_times => k_is)
    (case c_R_take_times => k_is)
    (case k_R_take_times => k_is)
    (case a_R_take_repetition => k_is)
    (case i_R_take_repetition => k_is)
    (case l_R_take_repetition => k_is)
    (case c_R_take_repetition => k_is)
    (case k_R_take_repetition => k_is)
    (case a_R_keep_name => k_is)
    (case i_R_keep_name => k_is)
    (case l_R_keep_name => k_is)
    (case c_R_keep_name => k_is)
    (case k_R_keep_name => k_is)
    (case a_R_take_name => k_is)
    (case i_R_take_name => k_is)
    (case l_R_take_name => k_is)
    (case c_R_take_name => k_is)
    (case k_R_take_name => k_is)
    (case a_R_take_opening => k_is)
    (case i_R_take_opening => k_is)
    (case l_R_take_opening => k_is)
    (case c_R_take_opening => k_is)
    (case k_R_take_opening => k_is)
    (case a_R_take_closing => k_is)
    (case i_R_take_closing => k_is)
    (case l_R_take_closing => k_is)
    (case c_R_take_closing => k_is)
    (case k_R_take_closing => k_is)
    (case a_R_take_next => k_is)
    (case i_R_take_next => k_is)
    (case l_R_take_next => k_is)
    (case c_R_take_next => k_is)
    (case k_R_take_next => k_is)
    (case a_R_made_pattern => k_is)
    (case i_R_made_pattern => k_is)
    (case l_R_made_pattern => k_is)
    (case c_R_made_pattern => k_is)
    (case k_R_made_pattern => k_is)
    (case aB => k_is)
    (case pgB => k_is)
    (case hdB => k_is)
    (case poB => k_is)
    (case saB => k_is)
    (case mkB => k_is)
    (case kcB => k_is)
    (case nB_closing => k_is)
    (case nB_number => k_is)
    (case nB_rows => k_is)
    (case nB_atoms => k_is)
    (case nB_last_atoms => k_is)
    (case a_B_init => k_is)
    (case i_B_init => k_is)
    (case l_B_init => k_is)
    (case c_B_init => k_is)
    (case k_B_init => k_is)
    (case a_B_add_atom => k_is)
    (case i_B_add_atom => k_is)
    (case l_B_add_atom => k_is)
    (case c_B_add_atom => k_is)
    (case k_B_add_atom => k_is)
    (case a_B_repeat_atom => k_is)
    (case i_B_repeat_atom => k_is)
    (case l_B_repeat_atom => k_is)
    (case c_B_repeat_atom => k_is)
    (case k_B_repeat_atom => k_is)
    (case a_B_end_row => k_is)
    (case i_B_end_row => k_is)
    (case l_B_end_row => k_is)
    (case c_B_end_row => k_is)
    (case k_B_end_row => k_is)
    (case a_B_made_part => k_is)
    (case i_B_made_part => k_is)
    (case l_B_made_part => k_is)
    (case c_B_made_part => k_is)
    (case k_B_made_part => k_is)
    (case aP => k_is)
    (case pgP => k_is)
    (case hdP => k_is)
    (case poP => k_is)
    (case saP => k_is)
    (case mkP => k_is)
    (case kcP => k_is)
    (case nP_names => k_is)
    (case nP_body => k_is)
    (case a_P_init => k_is)
    (case i_P_init => k_is)
    (case l_P_init => k_is)
    (case c_P_init => k_is)
    (case k_P_init => k_is)
    (case ao => k_is)
    (case pgo => k_is)
    (case hdo => k_is)
    (case poo => k_is)
    (case sao => k_is)
    (case mko => k_is)
    (case kco => k_is)
    (case no_ranges => k_is)
    (case no_inverted => k_is)
    (case no_reach => k_is)
    (case a_o_init => k_is)
    (case i_o_init => k_is)
    (case l_o_init => k_is)
    (case c_o_init => k_is)
    (case k_o_init => k_is)
    (case as => k_is)
    (case pgs => k_is)
    (case hds => k_is)
    (case pos => k_is)
    (case sas => k_is)
    (case mks => k_is)
    (case kcs => k_is)
    (case ns_sign => k_is)
    (case ns_reach => k_is)
    (case a_s_init => k_is)
    (case i_s_init => k_is)
    (case l_s_init => k_is)
    (case c_s_init => k_is)
    (case k_s_init => k_is)
    (case ar => k_is)
    (case pgr => k_is)
    (case hdr => k_is)
    (case por => k_is)
    (case sar => k_is)
    (case mkr => k_is)
    (case kcr => k_is)
    (case nr_steps => k_is)
    (case nr_reach => k_is)
    (case nr_reach_after => k_is)
    (case a_r_init => k_is)
    (case i_r_init => k_is)
    (case l_r_init => k_is)
    (case c_r_init => k_is)
    (case k_r_init => k_is)
    (case ac => k_is)
    (case pgc => k_is)
    (case hdc => k_is)
    (case poc => k_is)
    (case sac => k_is)
    (case mkc => k_is)
    (case kcc => k_is)
    (case nc_rows => k_is)
    (case nc_reach => k_is)
    (case a_c_init => k_is)
    (case i_c_init => k_is)
    (case l_c_init => k_is)
    (case c_c_init => k_is)
    (case k_c_init => k_is)
    (case ap => k_is)
    (case pgp => k_is)
    (case hdp => k_is)
    (case pop => k_is)
    (case sap => k_is)
    (case mkp => k_is)
    (case kcp => k_is)
    (case np_body => k_is)
    (case np_least => k_is)
    (case np_most => k_is)
    (case np_reach => k_is)
    (case np_reach_after => k_is)
    (case a_p_init => k_is)
    (case i_p_init => k_is)
    (case l_p_init => k_is)
    (case c_p_init => k_is)
    (case k_p_init => k_is)
    (case ak => k_is)
    (case pgk => k_is)
    (case hdk => k_is)
    (case pok => k_is)
    (case sak => k_is)
    (case mkk => k_is)
    (case kck => k_is)
    (case nk_number => k_is)
    (case nk_body => k_is)
    (case nk_reach => k_is)
    (case a_k_init => k_is)
    (case i_k_init => k_is)
    (case l_k_init => k_is)
    (case c_k_init => k_is)
    (case k_k_init => k_is)
    (case a_just_one => k_is)
    (case l_just_one => k_is)
    (case c_just_one => k_is)
    (case k_just_one => k_is)
    (case a_is_just_one => k_is)
    (case l_is_just_one => k_is)
    (case c_is_just_one => k_is)
    (case k_is_just_one => k_is)
    (case a_every_value => k_is)
    (case l_every_value => k_is)
    (case c_every_value => k_is)
    (case k_every_value => k_is)
    (case a_all_but => k_is)
    (case l_all_but => k_is)
    (case c_all_but => k_is)
    (case k_all_but => k_is)
    (case a_listed_ranges => k_is)
    (case l_listed_ranges => k_is)
    (case c_listed_ranges => k_is)
    (case k_listed_ranges => k_is)
    (case a_row_of => k_is)
    (case l_row_of => k_is)
    (case c_row_of => k_is)
    (case k_row_of => k_is)
    (case a_choice_of => k_is)
    (case l_choice_of => k_is)
    (case c_choice_of => k_is)
    (case k_choice_of => k_is)
    (case a_following_bytes => k_is)
    (case l_following_bytes => k_is)
    (case c_following_bytes => k_is)
    (case k_following_bytes => k_is)
    (case a_scalar_at => k_is)
    (case l_scalar_at => k_is)
    (case c_scalar_at => k_is)
    (case k_scalar_at => k_is)
    (case a_escape_ranges => k_is)
    (case l_escape_ranges => k_is)
    (case c_escape_ranges => k_is)
    (case k_escape_ranges => k_is)
    (case a_names_in => k_is)
    (case l_names_in => k_is)
    (case c_names_in => k_is)
    (case k_names_in => k_is)
    (case a_read_pattern => k_is)
    (case l_read_pattern => k_is)
    (case c_read_pattern => k_is)
    (case k_read_pattern => k_is)
    (case a_judge => k_is)
    (case l_judge => k_is)
    (case c_judge => k_is)
    (case k_judge => k_is)
    (case aFT => k_is)
    (case xLFT => k_is)
    (case saFT => k_is)
    (case gaFT => k_is)
    (case ggFT => k_is)
    (case nFT_kind => k_is)
    (case nFT_place => k_is)
    (case a1FT => k_is)
    (case t1FT => k_is)
    (case l1FT => k_is)
    (case c1FT => k_is)
    (case kCFT => k_is)
    (case eCFT => k_is)
    (case tCFT => k_is)
    (case hCFT => k_is)
    (case iCFT => k_is)
    (case sCFT => first | rfl | k_is)
    (case v_ENDS_TOO_SOON => k_is)
    (case v_CANNOT_STAND => k_is)
    (case v_NUMBER_OUT_OF_RANGE => k_is)
    (case v_NAME_REFUSED => k_is)
    (case v_TOO_MANY_OPEN => k_is)
    (case v_ENDS_IN_WRONG_ORDER => k_is)
    (case v_TOO_MANY_ATOMS => k_is)
    (case v_MOST_TIMES => k_is)
    (case v_MOST_NAMES => k_is)
    (case v_LONGEST_NAME => k_is)
    (case v_MOST_OPEN => k_is)
    (case v_MOST_ATOMS => k_is)
    (case v_LONGEST => k_is)
    (case v_TOO_LONG => k_is)
    (case v_NOT_IN_FORM => k_is)
    (case v_GREATEST => k_is)
    (case v_FIGURES => k_is)
    (case v_SMALL_LETTERS => k_is)
    (case v_NAME_SIGNS => k_is)
    (case v_SIGNS => k_is)
    (case v_SET_SIGNS => k_is)
    (case v_END_ESCAPES => k_is)
    (case v_PART_ESCAPES => k_is)
    (case v_ATOM_ESCAPES => k_is)
    (case v_LISTED_ESCAPES => k_is)
    (case v_len => k_is)
    (case v_ord => k_is)
    (case v_range => k_is)
    (case v_int => k_is)
    (case v_max => k_is)
    (case v_list => k_is)
    (case dL => k_is)
    (case dLl => k_is)
    (case dH => k_is)
    (case dHl => k_is)
    (case dC => k_is)
    (case dCl => k_is)
    (case dM => k_is)
    (case dMl => k_is)
    (case dR => k_is)
    (case dRl => k_is)
    (case dR100 => k_is)
    (case dR119 => k_is)
    (case dR115 => k_is)
    (case dR68 => k_is)
    (case dR87 => k_is)
    (case dR83 => k_is)
    (case s_d6 => k_is)
    (case s_g1 => k_is)
    (case s_d7 => k_is)
    (case s_g2 => k_is)
    (case s_g3 => k_is)
    (case s_g4 => k_is)
    (case s_g5 => k_is)
    (case s_d8 => k_is)
    (case s_g6 => k_is)
    (case s_g7 => k_is)
    (case dP => k_is)
    (case dPl => k_is)
    (case dP42 => k_is)
    (case dP43 => k_is)
    (case dP63 => k_is)
    (case s_g8 => k_is)
    (case s_g9 => k_is)
    (case s_g10 => k_is)
    (case lo1 => decide +kernel)
    (case lo2 => decide +kernel)
    (case lo3 => decide +kernel)
    (case lo5 => decide +kernel)
  case S =>
    intro K H xs a hO hwi hask hx
    cases hx with
    | cons h3 h4 =>
      cases h4
      cases h3 with
      | lst hs ha =>
        have e := L2.ints_dw a.1 _ ha
        subst e
        have q : ((Codec.inLen 0 1000 a.1 && a.1.all (Codec.inInt 0 255)) && true) = true := hwi
        rw [Bool.and_true] at q
        obtain ⟨s1, l1⟩ := Pat.arg_list hs q
        refine ⟨_, Neutral.text a.1, rfl, s1, l1, fun H' p hp => ?_⟩
        rw [← Pat.judge_is] at hp
        exact .lst (L2.SqL.of hp) (L2.dw_ints _)
#print axioms PySem.Challenge.cw_toldpatterns_s01_judge_holds
end
