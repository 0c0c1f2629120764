import PyProof.Rows.All
import Wide.All
import OpenK.AllK
import Wide.FinOn
import PyProof.EqAt
import PyProof.EqKinds
import PyProof.TupleCall
import Open.SpecLaws
import KE.OsGo
import HandS.ForSpec
import HandS.ExcSuper
import HandS.ExcField
import HandS.ForMost
import HandS.Walk
import PySem.Challenge.RW_toldpatterns_s02_name
import HandS.Deep
set_option Elab.async false
set_option linter.all false
set_option maxRecDepth 100000
set_option maxHeartbeats 8000000
section
/-! # An own error over Exception whose __init__ stores two fields, kind and place: made, raised (after skel/42_own_error_by_import) -/
namespace PySem
namespace FaultX
open PySem.W PySem.Calls PyProof.Rows PySem.HandSPX
def iA (p1 p2 p3 : Pos) : Arguments := { posonlyargs := [], args := [{ arg := "self", annotation := none, pos := p1 }, { arg := "kind", annotation := none, pos := p2 }, { arg := "place", annotation := none, pos := p3 }], vararg := none, kwonlyargs := [], kw_defaults := [], kwarg := none, defaults := [] }
def iB (q1 q2 q3 q4 q5 q6 q7 q8 : Pos) : List Stmt := [.Assign [.Attribute (.Name "self" q1) "kind" q2] (.Name "kind" q3) q4, .Assign [.Attribute (.Name "self" q5) "place" q6] (.Name "place" q7) q8]
def iS : Scope := { kind := .function, names := [(PySem.Str.ofString "self", .local), (PySem.Str.ofString "kind", .local), (PySem.Str.ofString "place", .local)], isGenerator := false, isCoroutine := false, more := [] }
/-- what the written part says of Fault, at C, and of its __init__, at fI -/
structure FaultTxt (K : Frag) (mg : Str → Option Value) (C fI : Addr) : Prop where
  gC : mg "Fault" = some (.ref C)
  cls : ∃ nm q N bs sn sub ab col dd k0 k1 k2 k3 k5, K.lookup C = some (excClassObj nm q C N bs ESX.exTail true sn sub ab col dd k0 k1 k2 k3 k5 "Exception.__new__")
  sa : findIn K (.ref C) "__setattr__" = some (some (.builtin "object.__setattr__"))
  xf : L2.XfC K C
  noK : findIn K (.ref C) "kind" = some none
  noP : findIn K (.ref C) "place" = some none
  iC : findIn K (.ref C) "__init__" = some (some (.ref fI))
  tC : typeIn K (.ref fI) = some (.type "function")
  kC : keepIn K (.ref C) = true
  exC : subIn K (.ref C) (.type "BaseException") = some true
  tyC : typeIn K (.ref C) = some (.type "type")
  te : exmOne K (.ref C) (.ref C) = some true
  fn : ∃ (oc : Value) (od : Option Addr) (doc pm : Value) (an : Option Addr) (cdv ct : Value) (osl : Array (Option Value)) (p1 p2 p3 q1 q2 q3 q4 q5 q6 q7 q8 : Pos),
    K.lookup fI = some ⟨oc, od, .func (fnOf "__init__" "Fault.__init__" (iA p1 p2 p3) (iB q1 q2 q3 q4 q5 q6 q7 q8) iS .none .none doc pm an cdv ct), osl⟩ ∧ codeIn K cdv "Fault.__init__" = true
theorem two_size (v v2 : Value) : [v, v2].length ≤ sizeLine := by
  rw [sizeLine_eq]
  exact (by decide : 2 ≤ 16777216)
theorem kept_but {K : Frag} {h h' : Heap} {x : Addr} (X : K.In h) (hx : K.lookup x = none) (k : ∀ b o, b ≠ x → h.get? b = some o → h'.get? b = some o) : K.In h' := fun a o e =>
  k a o (fun z => by rw [z, hx] at e; cases e) (X a o e)
theorem ldC {M : Model} {s : Shared} {name : Str} {scope : Scope} {L a : Addr} {cd : Value} {m : Str → Option Value} {x : Str} {pos : Pos} {v : Value} {Q : Value → Shared → Prop} {A : Around} {E : Value → Shared → Prop} (hn : s.heap.Ns L m) (hv : m x = some v) (h : Q v s)
    (hk : scope.kind = .function := by rfl) (hl : (envOfC name scope L a cd).kindOf x = some .local := by rfl) (hd : (x == ("__debug__" : Str)) = false := by decide) :
    wpAny M A (eval (.Name x pos) (envOfC name scope L a cd)) Q E s := wpAny_Name (wpAny_loadName_local hk hl hn hv h) hd
def two (v v2 : Value) : Str → Option Value := fun y => if y = "place" then some v2 else if y = "kind" then some v else none
/-- what __init__ leaves of a fresh exception at x -/
structure InitEnd (h h' : Heap) (x C dx t1 : Addr) (v v2 : Value) : Prop where
  keep : ∀ b o, b ≠ x → h.get? b = some o → h'.get? b = some o
  obj : h'.get? x = some { cls := .ref C, dict := some dx, data := .fields #[.ref t1, .none, .none, .none, .bool false, .none] }
  dbig : h.objs.size ≤ dx
  dne : dx ≠ x
  ns : h'.Ns1 dx (two v v2)
/-- a made Fault -/
structure OwnMade (h h' : Heap) (e C d : Addr) (v v2 : Value) : Prop where
  keep : ∀ b o, h.get? b = some o → h'.get? b = some o
  new : h.objs.size ≤ e
  obj : ∃ oe vs, h'.get? e = some oe ∧ oe.cls = .ref C ∧ oe.dict = some d ∧ oe.data = .fields vs ∧ vs[1]? = some .none
  dbig : h.objs.size ≤ d
  dne : d ≠ e
  ns : h'.Ns1 d (two v v2)
section
variable {prog : Program} {w : World} {A : Around} {E : Value → Shared → Prop} {R : Result → Shared → Prop} {s : Shared} {K : Frag} {mg : Str → Option Value} {C fI : Addr}
theorem fault_init (T : FaultTxt K mg C fI) {x t0 : Addr} {v v2 : Value} (X : K.In s.heap) (hlim : s.heap.NoLimit) (hx : s.heap.get? x = some (excO C t0)) (hnx : K.lookup x = none) (hroom : A.depth < recursionLimit)
    (hq : ∀ h' tk dx, InitEnd s.heap h' x C dx t0 v v2 → R (.ok (.ret .none)) { s with heap := h', toks := tk }) :
    codeAny (model prog w) A (.call (.ref fI) ⟨[.ref x, v, v2], []⟩) R s := by
  obtain ⟨oc, od, doc, pm, an, cdv, ct, osl, p1, p2, p3, q1, q2, q3, q4, q5, q6, q7, q8, ho, hcd⟩ := T.fn
  obtain ⟨nm, q, N, bs, sn, sub, ab, col, dd, k0, k1, k2, k3, k5, hC⟩ := T.cls
  have hcl : clsIn K C = some { name := nm, bases := bs, mro := .ref C :: ESX.exTail, ns := N, qualname := q, hasDict := true, slotNames := sn, subclasses := sub, abstract := ab, collection := col, hasDel := false } := by unfold clsIn; rw [hC] <;> rfl
  refine Att.call_fn (binds := [("self", .ref x), ("kind", v), ("place", v2)]) X hlim ho hcd hroom (BindsTo.of_eq (by first | rfl | with_unfolding_all rfl)) (by first | rfl | decide | with_unfolding_all rfl) (fun s₁ IC => ?_) rfl rfl rfl
  obtain ⟨h₁, tk₁, rfl⟩ := IC.toInCall.same
  have k : ∀ b o, s.heap.get? b = some o → h₁.get? b = some o := IC.toInCall.keep
  have hn := IC.toInCall.ns
  have hxL : s.heap.objs.size ≠ x := Nat.ne_of_gt (Heap.lt_size hx)
  have X₁ : K.In h₁ := X.keeps k
  have hx₁ := k _ _ hx
  -- self.kind = kind
  show wpAny _ _ (execs _ _) _ _ _
  refine wpAny_execs_cons (plainObj_wpAny_Assign_Attribute ?_)
  refine ldC (v := v) hn (by first | rfl | with_unfolding_all rfl | kernel_rfl) (ldC (v := .ref x) hn (by first | rfl | with_unfolding_all rfl | kernel_rfl) ?_)
  refine set_plain X₁ (ox := excO C t0) (od := none) ⟨hx₁, rfl, rfl, trivial⟩ T.sa ?_
  refine ESX.osa_new X₁ hx₁ hcl rfl rfl T.noK (fun h₃ tk₃ dx k₃ dn dne hx₃ hn₃ => ?_)
  have z : s.heap.objs.size < h₁.objs.size := hn.lt
  have hnL : h₃.Ns s.heap.objs.size _ := hn.at (fun o e => k₃ _ o hxL e)
  have X₃ : K.In h₃ := kept_but X₁ hnx k₃
  obtain ⟨oD, _, _, hoD, _, _⟩ := hn₃.count (Within.cons "kind" v Within.nil)
  -- self.place = place
  show wpAny _ _ (execs _ _) _ _ _
  refine wpAny_execs_cons (plainObj_wpAny_Assign_Attribute ?_)
  refine ldC (v := v2) hnL (by first | rfl | with_unfolding_all rfl | kernel_rfl) (ldC (v := .ref x) hnL (by first | rfl | with_unfolding_all rfl | kernel_rfl) ?_)
  refine set_plain X₃ (ox := { cls := .ref C, dict := some dx, data := .fields #[.ref t0, .none, .none, .none, .bool false, .none] }) (od := some oD) ⟨hx₃, rfl, rfl, hoD⟩ T.sa ?_
  refine ESX.osa_old X₃ hx₃ hn₃ (Within.cons "kind" v Within.nil) (by decide) hcl rfl rfl T.noP (fun h₄ tk₄ k₄ hn₄ => ?_)
  show wpAny _ _ (execs _ _) _ _ _
  have dold : ∀ b o, s.heap.get? b = some o → b ≠ dx := fun b o e => Nat.ne_of_lt (Nat.lt_of_lt_of_le (Nat.lt_trans (Heap.lt_size e) z) dn)
  exact wpAny_execs_nil (hq h₄ tk₄ dx ⟨fun b o hb e => k₄ b o (dold b o e) (k₃ b o hb (k b o e)), k₄ _ _ (Ne.symm dne) hx₃, Nat.le_of_lt (Nat.lt_of_lt_of_le z dn), dne, hn₄⟩)
theorem fault_made (T : FaultTxt K mg C fI) {v v2 : Value} (X : K.In s.heap) (hlim : s.heap.NoLimit) (hroom : A.depth + 1 < recursionLimit)
    (hq : ∀ h' tk e d, OwnMade s.heap h' e C d v v2 → R (.ok (.ret (.ref e))) { s with heap := h', toks := tk }) :
    codeAny (model prog w) A (.call (.ref C) ⟨[v, v2], []⟩) R s := by
  obtain ⟨nm, q, N, bs, sn, sub, ab, col, dd, k0, k1, k2, k3, k5, hC⟩ := T.cls
  obtain ⟨hp, g, dr, tk, os⟩ := s
  have k : ∀ b o, hp.get? b = some o → ((hp.push (kdv_tup [v, v2])).push (excO C hp.objs.size)).get? b = some o := fun b o e => Heap.get?_push_of_some _ (Heap.get?_push_of_some _ e)
  have hget : ((hp.push (kdv_tup [v, v2])).push (excO C hp.objs.size)).get? (hp.objs.size + 1) = some (excO C hp.objs.size) := by heap_get
  have hnx : K.lookup (hp.objs.size + 1) = none := by
    cases e : K.lookup (hp.objs.size + 1) with
    | none => rfl
    | some o =>
      have z : hp.get? (hp.objs.size + 1) = some o := X _ _ e
      exact absurd (Nat.lt_of_succ_lt (Heap.lt_size z)) (Nat.lt_irrefl _)
  refine call_own F.excBase_Exception (fun X => rfl) (X _ _ hC) (looks_findIn X T.iC) (fun self => bind_fn X self T.tC) (two_size v v2) ?_
  refine fault_init (s := ⟨(hp.push (kdv_tup [v, v2])).push (excO C hp.objs.size), g, dr, tk, os⟩) T (X.keeps k) (hlim.keeps k) hget hnx ?_ fun h' tk' dx ⟨k', hx, dn, dne, hns⟩ => ?_
  · show A.depth + 1 < recursionLimit
    exact hroom
  · have old : ∀ b o, hp.get? b = some o → h'.get? b = some o := fun b o e => k' b o (Nat.ne_of_lt (Nat.lt_succ_of_lt (Heap.lt_size e))) (k b o e)
    have z : hp.objs.size + 1 + 1 ≤ dx := by
      first
        | (simpa only [Heap.size_push] using dn)
        | exact dn
        | (have q := dn; rw [Heap.size_push, Heap.size_push] at q; exact q)
    exact ⟨rfl, hq h' tk' (hp.objs.size + 1) dx ⟨old, Nat.le_succ _, ⟨_, _, hx, rfl, rfl, rfl, rfl⟩, Nat.le_trans (Nat.le_trans (Nat.le_succ _) (Nat.le_succ _)) z, dne, hns⟩⟩
end
end FaultX
end PySem
namespace L2
open PySem PySem.Spec PyProof.Rows
/-- the fields of a Fault -/
def faultF (v v2 : V) : List (Str × V) := [(("kind" : Str), v), (("place" : Str), v2)]
theorem faultF_kind (v v2 : V) : (faultF v v2).lookup ("kind" : Str) = some v := by simp [faultF, List.lookup]
theorem faultF_place (v v2 : V) : (faultF v v2).lookup ("place" : Str) = some v2 := by
  have e : (("place" : Str) == ("kind" : Str)) = false := by decide +kernel
  simp [faultF, List.lookup, e]
theorem relO_fault {v v2 : V} {u u2 : Value} (r : RelV v u) (r2 : RelV v2 u2) (f : Str) : RelO (List.lookup f (faultF v v2)) (PySem.FaultX.two u u2 f) := by
  unfold PySem.FaultX.two
  by_cases hp : f = "place"
  · subst hp
    rw [if_pos rfl, faultF_place]
    exact r2
  · rw [if_neg hp]
    by_cases hk : f = "kind"
    · subst hk
      rw [if_pos rfl, faultF_kind]
      exact r
    · rw [if_neg hk]
      have q1 : (f == ("place" : Str)) = false := by simpa using hp
      have q2 : (f == ("kind" : Str)) = false := by simpa using hk
      have q3 : List.lookup f (faultF v v2) = none := by simp [faultF, List.lookup, q1, q2]
      rw [q3]
      trivial
section
variable {X : Cx} {C fI : Addr}
/-- Fault(a, b) -/
def tMkFault (C : Addr) (ta : TA) : St → Hp → XK → Prop := fun σ H Q => ta σ H fun vs H1 => ∃ v v2, vs = [v, v2] ∧ ∀ d, H1 d = none → Q (.ref C) (some d) (upd H1 d (.xd (faultF v v2)))
theorem pmk_fault {a b : Expr} {ta : TA} {p pos : Pos} {k : Nat} (T : PySem.FaultX.FaultTxt X.K X.mg C fI) (hr : Room k X.A) (ha : PA X [a, b] ta) (hg : Gl X "Fault" := by rfl)
    (he : starEach [a, b] X.env = (false, eval a X.env) :: starEach [b] X.env := by rfl) (hpl : (backTo pos (starEach [b] X.env)).any (·.1) = false := by rfl) :
    PMk X (.Call (.Name "Fault" p) [a, b] [] pos) (tMkFault C ta) := by
  intro pins s σ H Q I h
  refine wpAny_Call_Name_kw (ld_glob I hg T.gC ?_)
  refine PySem.W.callWith_K (h₀ := X.base) I.ok.mod.kin T.kC (thn (ha.run pos pins s σ H _ I h) fun us s1 hh => ?_) he hpl
  obtain ⟨vs, H1, I1, r1, v, v2, ev, q1⟩ := hh
  subst ev
  refine ⟨I1.kIn, ?_⟩
  cases r1 with
  | cons rv rn =>
    rename_i v' us'
    cases rn with
    | cons rv2 rn2 =>
      rename_i v2' us2
      cases rn2
      show wpAny _ _ (call (.ref C) [v', v2']) _ _ _
      have hlim := I1.nolimit
      obtain ⟨hp, g, dr, tk, os⟩ := s1
      refine wpAny_call (PySem.FaultX.fault_made T I1.kIn hlim (by have := hr.dp; omega) fun h' tk' e d M => ?_)
      show MkP X pins σ Q (.ref e) ⟨h', g, dr, tk', os⟩
      obtain ⟨oe, fv, hoe, hc, hd, hdat, h1⟩ := M.obj
      have hns := M.ns
      obtain ⟨G', g1, g2⟩ := restrict h' fun b => decide (b ≠ e)
      have gk : ∀ b, b ≠ e → G'.get? b = h'.get? b := fun b hb => g1 b (decide_eq_true hb)
      have ge : G'.get? e = none := g2 e (by simp)
      have old : ∀ b o, hp.get? b = some o → G'.get? b = some o := fun b o q => (gk b (Nat.ne_of_lt (Nat.lt_of_lt_of_le (Heap.lt_size q) M.new))).trans (M.keep b o q)
      have ob : ObjOk X.prog X.w (upd H1 d (.xd (faultF v v2))) G' d (.xd (faultF v v2)) :=
        ⟨_, hns.at (fun o q => (gk d M.dne).trans q), fun f => relO_fault rv rv2 f⟩
      have J : Inv X pins σ (upd H1 d (.xd (faultF v v2))) ⟨G', g, dr, tk', os⟩ := I1.laid (t' := tk') old M.dbig ob
      refine ⟨e, oe, fv, ⟨G', g, dr, tk', os⟩, _, .ref C, some d, rfl, J, fun b o q => ?_, ge, hoe, ⟨hc, hd⟩, hdat, h1, ?_, rfl, I1.bare, raises_own T.exC T.tyC, q1 d (I1.hok.fresh M.dbig)⟩
      · by_cases hb : b = e
        · have q' : G'.get? b = some o := q
          rw [hb, ge] at q'; cases q'
        · exact (gk b hb).symm.trans q
      · rw [upd_ne (Ne.symm M.dne)]
        exact I1.hok.fresh M.new
/-- raise Fault(a, b) -/
def tRaiseFault (C : Addr) (W : WX) (ta : TA) : TS := fun _ σ H => tMkFault C ta σ H fun cls d H' => W cls d σ H'
theorem ps_raiseFault {a b : Expr} {ta : TA} {W : WX} {p pos pos2 : Pos} {k : Nat} (hc : X.calm = true) (T : PySem.FaultX.FaultTxt X.K X.mg C fI) (hr : Room k X.A) (tk : Takes X W) (ha : PA X [a, b] ta) (hg : Gl X "Fault" := by rfl)
    (he : starEach [a, b] X.env = (false, eval a X.env) :: starEach [b] X.env := by rfl) (hpl : (backTo pos (starEach [b] X.env)).any (·.1) = false := by rfl) :
    PS X (.Raise (some (.Call (.Name "Fault" p) [a, b] [] pos)) none pos2) (tRaiseFault C W ta) := ps_raise hc tk (pmk_fault T hr ha hg he hpl)
end
end L2
end

section
open PatUtf PatWords
namespace Mach
/-! A reader that goes from the front with a pile of open brackets: it answers as `PatWords.read`. -/

def seqs : List Pat → Pat
  | [] => .nothing
  | a :: l => .seq a (seqs l)
def alts : List Pat → Pat
  | [] => .nothing
  | [a] => a
  | a :: b :: l => .alt a (alts (b :: l))

/-- An open bracket, or the outside: what closes it, its name, its whole rows, the items of the row begun, whether a sign of repetition may come. -/
structure Fr where
  close : List UInt8
  name : Option Name
  rows : List Pat
  items : List Pat
  last : Bool
structure St where
  p : Nat
  b : Bytes
  ns : List (Nat × Name)
  frs : List Fr

def Fr.pat (fr : Fr) : Pat := alts (fr.rows ++ [seqs fr.items])
def Fr.atom (fr : Fr) : Pat := match fr.name with
  | none => fr.pat
  | some n => .cap n fr.pat
def fresh (close : List UInt8) (name : Option Name) : Fr := ⟨close, name, [], [], false⟩
def Fr.push (fr : Fr) (a : Pat) : Fr := { fr with items := fr.items ++ [a], last := true }
def Fr.bar (fr : Fr) : Fr := { fr with rows := fr.rows ++ [seqs fr.items], items := [], last := false }
def Fr.swap (fr : Fr) (a : Pat) : Fr := { fr with items := fr.items.dropLast ++ [a], last := false }
def isRep (c : UInt8) : Bool := c == 42 || c == 43 || c == 63 || c == 123
/-- A name behind its `<`. -/
def nameP (ns : List (Nat × Name)) (p : Nat) (r : Bytes) : Except Fault (Name × Bytes × Nat) := match r with
  | [] => .error ⟨1, p⟩
  | d :: _ => if isSmall d = false then .error ⟨2, p⟩ else
    let n := r.takeWhile inName
    if n.length = r.length then .error ⟨1, p + n.length⟩ else if NAMELEN < n.length ∨ (ns.any fun (y : Nat × Name) => y.2 == n) = true ∨ NAMES ≤ ns.length then .error ⟨4, p⟩ else match r.drop n.length with
      | [] => .error ⟨1, p + n.length⟩
      | e :: s => if e ≠ 32 then .error ⟨2, p + n.length⟩ else .ok (n, s, p + 1 + n.length)
/-- One step: the next sign, single atom or repetition. -/
def stepC (p : Nat) (ns : List (Nat × Name)) (fr : Fr) (frs : List Fr) (c : UInt8) (r : Bytes) : Except Fault St :=
  if c = 124 then .ok ⟨p + 1, r, ns, fr.bar :: frs⟩
  else if c = 40 then (if OPENED ≤ frs.length then .error ⟨5, p⟩ else .ok ⟨p + 1, r, ns, fresh [41] none :: fr :: frs⟩)
  else if c = 60 then (if OPENED ≤ frs.length then .error ⟨5, p⟩ else match nameP ns (p + 1) r with
    | .error e => .error e
    | .ok (n, s, q) => .ok ⟨q, s, ns ++ [(p + 1, n)], fresh [62] (some n) :: fr :: frs⟩)
  else if c = 41 ∨ c = 62 then (if fr.close = [c] then (match frs with
      | [] => .error ⟨2, p⟩
      | g :: gs => .ok ⟨p + 1, r, ns, g.push fr.atom :: gs⟩) else .error ⟨2, p⟩)
  else if isRep c = true then (if fr.last = true then (match repP (fr.items.getLast?.getD .nothing) p (c :: r) with
      | .error e => .error e
      | .ok (a, s, q) => .ok ⟨q, s, ns, fr.swap a :: frs⟩) else .error ⟨2, p⟩)
  else match atomP 1 0 [] p (c :: r) with
    | .error e => .error e
    | .ok (a, _, s, q) => .ok ⟨q, s, ns, fr.push a :: frs⟩
def finish (st : St) : Except Fault (Pat × List (Nat × Name)) := match st.frs with
  | [fr] => if ATOMS < fr.pat.size then .error ⟨7, 0⟩ else .ok (fr.pat, st.ns)
  | _ => .error ⟨1, st.p⟩
def run : Nat → St → Except Fault (Pat × List (Nat × Name))
  | 0, st => .error ⟨1, st.p⟩
  | f + 1, st => match st.b, st.frs with
    | [], _ => finish st
    | _, [] => .error ⟨1, st.p⟩
    | c :: r, fr :: frs => match stepC st.p st.ns fr frs c r with
      | .error e => .error e
      | .ok st' => run f st'

/-! ## Each reader leaves fewer bytes -/
theorem follow_len : ∀ (k lo hi x p : Nat) (b : Bytes) (z : Nat × Bytes), follow k lo hi x p b = .ok z → z.2.length ≤ b.length
  | 0, _, _, _, _, b, z, h => by
    simp only [follow] at h; cases h; exact Nat.le_refl _
  | k + 1, lo, hi, x, p, [], z, h => by simp only [follow] at h; cases h
  | k + 1, lo, hi, x, p, c :: b, z, h => by
    simp only [follow] at h
    split at h
    · exact Nat.le_trans (follow_len k _ _ _ _ b z h) (Nat.le_succ _)
    · cases h
theorem scalarAt_len {p : Nat} {b : Bytes} {z : Nat × Bytes} (h : scalarAt p b = .ok z) : z.2.length < b.length := by
  cases b with
  | nil => cases h
  | cons c b =>
    simp only [scalarAt] at h
    cases e : leads c.toNat with
    | none => rw [e] at h; cases h
    | some k => rw [e] at h; exact Nat.lt_succ_of_le (follow_len _ _ _ _ _ _ _ h)
theorem valueP_len {p : Nat} {b : Bytes} {z : Nat × Bytes × Nat} (h : valueP p b = .ok z) : z.2.1.length < b.length := by
  unfold valueP at h
  cases e : scalarAt p b with
  | error q => rw [e] at h; cases h
  | ok y => rw [e] at h; cases h; exact scalarAt_len e
theorem oneP_len {p : Nat} {b : Bytes} {z} (h : oneP p b = .ok z) : z.2.1.length < b.length := by
  unfold oneP at h
  cases b with
  | nil => cases h
  | cons c r =>
    simp only at h
    split at h
    · cases r with
      | nil => cases h
      | cons d s =>
        simp only at h
        split at h
        · cases h; simp; omega
        · split at h
          · cases h; simp; omega
          · cases h
    · split at h
      · cases h
      · cases e : valueP p (c :: r) with
        | error q => rw [e] at h; cases h
        | ok y => rw [e] at h; cases h; exact valueP_len e
theorem timesP_len {p : Nat} {b : Bytes} {z} (h : timesP p b = .ok z) : z.2.1.length < b.length := by
  unfold timesP at h
  cases b with
  | nil => cases h
  | cons c r =>
    simp only at h
    split at h
    · cases h
    · split at h
      · cases r with
        | nil => cases h
        | cons d s => cases h; simp
      · split at h
        · cases h
        · split at h
          · cases h
          · rename_i hd _ _ _
            cases h
            have hd' : isDigit c = true := by cases q : isDigit c with
              | true => rfl
              | false => exact absurd q hd
            simp only [List.takeWhile_cons, hd', if_true, List.length_cons, List.drop_succ_cons, List.length_drop]
            omega
theorem repP_len {a : Pat} {p : Nat} {b : Bytes} {z} (h : repP a p b = .ok z) : z.2.1.length ≤ b.length := by
  unfold repP at h
  cases b with
  | nil => cases h; simp
  | cons c r =>
    simp only at h
    split at h; · cases h; simp
    split at h; · cases h; simp
    split at h; · cases h; simp
    split at h
    · cases e : timesP (p + 1) r with
      | error q => rw [e] at h; cases h
      | ok y =>
        have l := timesP_len e
        rw [e] at h
        simp only [bind, Except.bind] at h
        obtain ⟨m, s, q⟩ := y
        simp only at h l
        cases s with
        | nil => cases h
        | cons d u =>
          simp only [List.length_cons] at h l
          split at h; · cases h; simp; omega
          split at h; · cases h
          cases u with
          | nil => cases h
          | cons e2 v =>
            simp only [List.length_cons] at h l
            split at h; · cases h; simp; omega
            cases e3 : timesP (q + 1) (e2 :: v) with
            | error q => rw [e3] at h; cases h
            | ok y2 =>
              have l2 := timesP_len e3
              rw [e3] at h
              obtain ⟨n, x, k⟩ := y2
              simp only [List.length_cons] at h l2
              split at h; · cases h
              cases x with
              | nil => cases h
              | cons y z =>
                simp only [List.length_cons] at h l2
                split at h
                · cases h; simp; omega
                · cases h
    · cases h; simp
end Mach
end

section
open PatUtf PatWords
namespace Mach
theorem partsP_len : ∀ (f : Nat) (s : Bool) (acc : List (Nat × Nat)) (p : Nat) (b : Bytes) (z), partsP f s acc p b = .ok z → z.2.1.length < b.length
  | 0, _, _, _, _, _, h => by simp only [partsP] at h; cases h
  | f + 1, s, acc, p, [], z, h => by simp only [partsP] at h; cases h
  | f + 1, s, acc, p, c :: r, z, h => by
    rw [partsP] at h
    simp only at h
    split at h
    · split at h
      · cases h; simp
      · cases h
    · cases e : oneP p (c :: r) with
      | error q => rw [e] at h; cases h
      | ok y =>
        have l := oneP_len e
        obtain ⟨x, u, q⟩ := y
        rw [e] at h
        simp only [bind, Except.bind] at h
        simp only at l
        cases x with
        | inr v => exact Nat.lt_trans (partsP_len f _ _ _ _ _ h) l
        | inl lo =>
          cases u with
          | nil => cases h
          | cons d u =>
            simp only at h
            split at h
            · cases e2 : oneP (q + 1) u with
              | error q => rw [e2] at h; cases h
              | ok y2 =>
                have l2 := oneP_len e2
                obtain ⟨y, v, k⟩ := y2
                rw [e2] at h
                simp only at h l2
                cases y with
                | inr w => cases h
                | inl hi =>
                  simp only at h
                  split at h
                  · cases h
                  · have l3 := partsP_len f _ _ _ _ _ h
                    simp only [List.length_cons] at l ⊢
                    omega
            · have l3 := partsP_len f _ _ _ _ _ h
              exact Nat.lt_trans l3 l
theorem nameP_len {ns : List (Nat × Name)} {p : Nat} {b : Bytes} {z} (h : nameP ns p b = .ok z) : z.2.1.length < b.length := by
  unfold nameP at h
  cases b with
  | nil => cases h
  | cons d r =>
    simp only at h
    split at h; · cases h
    split at h; · cases h
    split at h; · cases h
    split at h
    · cases h
    · rename_i e s q
      split at h
      · cases h
      · cases h
        simp only
        have := congrArg List.length q
        simp only [List.length_drop, List.length_cons] at this ⊢
        omega
/-- Of an atom that is no bracket nothing hangs on the names, on what is open, on the fuel. -/
theorem atom_single {f o : Nat} {ns : List (Nat × Name)} {p : Nat} {c : UInt8} {r : Bytes} (h1 : c ≠ 40) (h2 : c ≠ 60) :
    atomP (f + 1) o ns p (c :: r) = match atomP 1 0 [] p (c :: r) with
      | .error e => .error e
      | .ok (a, _, s, q) => .ok (a, ns, s, q) := by
  rw [atomP.eq_def (f + 1), atomP.eq_def 1]
  simp only [h1, h2, if_false]
  split; · rfl
  split; · rfl
  split; · rfl
  split
  · cases r with
    | nil => rfl
    | cons d s =>
      simp only
      split; · rfl
      split; · rfl
      split <;> rfl
  split
  · cases r with
    | nil => rfl
    | cons d s =>
      simp only
      split
      · cases partsP ((c :: d :: s).length + 1) false [] (p + 2) s <;> rfl
      · cases partsP ((c :: d :: s).length + 1) false [] (p + 1) (d :: s) <;> rfl
  split
  · rfl
  · cases valueP p (c :: r) <;> rfl
theorem atom1_len {p : Nat} {c : UInt8} {r : Bytes} {z} (h1 : c ≠ 40) (h2 : c ≠ 60) (h : atomP 1 0 [] p (c :: r) = .ok z) : z.2.2.1.length < (c :: r).length := by
  rw [atomP.eq_def 1] at h
  simp only [h1, h2, if_false] at h
  split at h; · cases h; simp
  split at h; · cases h; simp
  split at h; · cases h; simp
  split at h
  · cases r with
    | nil => cases h
    | cons d s =>
      simp only at h
      split at h; · cases h; simp; omega
      split at h; · cases h; simp; omega
      split at h
      · cases h; simp; omega
      · cases h
  split at h
  · cases r with
    | nil => cases h
    | cons d s =>
      simp only at h
      split at h
      · cases e : partsP ((c :: d :: s).length + 1) false [] (p + 2) s with
        | error q => rw [e] at h; cases h
        | ok y =>
          have := partsP_len _ _ _ _ _ _ e
          obtain ⟨y1, y2, y3⟩ := y
          rw [e] at h
          cases h
          simp only [List.length_cons] at this ⊢
          omega
      · cases e : partsP ((c :: d :: s).length + 1) false [] (p + 1) (d :: s) with
        | error q => rw [e] at h; cases h
        | ok y =>
          have := partsP_len _ _ _ _ _ _ e
          obtain ⟨y1, y2, y3⟩ := y
          rw [e] at h
          cases h
          simp only [List.length_cons] at this ⊢
          omega
  split at h
  · cases h
  · cases e : valueP p (c :: r) with
    | error q => rw [e] at h; cases h
    | ok y =>
      have := valueP_len e
      rw [e] at h
      cases h
      exact this
theorem repP_lt {a : Pat} {p : Nat} {c : UInt8} {r : Bytes} {z} (hc : isRep c = true) (h : repP a p (c :: r) = .ok z) : z.2.1.length < (c :: r).length := by
  have hl := repP_len h
  unfold repP at h
  simp only at h
  split at h; · cases h; simp
  split at h; · cases h; simp
  split at h; · cases h; simp
  split at h
  · cases e : timesP (p + 1) r with
    | error q => rw [e] at h; cases h
    | ok y =>
      have l := timesP_len e
      rw [e] at h
      simp only [bind, Except.bind] at h
      obtain ⟨m, s, q⟩ := y
      simp only at h l
      cases s with
      | nil => cases h
      | cons d u =>
        simp only [List.length_cons] at h l
        split at h; · cases h; simp; omega
        split at h; · cases h
        cases u with
        | nil => cases h
        | cons e2 v =>
          simp only [List.length_cons] at h l
          split at h; · cases h; simp; omega
          cases e3 : timesP (q + 1) (e2 :: v) with
          | error q => rw [e3] at h; cases h
          | ok y2 =>
            have l2 := timesP_len e3
            rw [e3] at h
            obtain ⟨n, x, k⟩ := y2
            simp only [List.length_cons] at h l2
            split at h; · cases h
            cases x with
            | nil => cases h
            | cons y z =>
              simp only [List.length_cons] at h l2
              split at h
              · cases h; simp; omega
              · cases h
  · rename_i n1 n2 n3 n4
    simp [isRep, n1, n2, n3, n4] at hc
theorem stepC_len {p : Nat} {ns : List (Nat × Name)} {fr : Fr} {frs : List Fr} {c : UInt8} {r : Bytes} {st : St} (h : stepC p ns fr frs c r = .ok st) : st.b.length < (c :: r).length := by
  unfold stepC at h
  split at h; · cases h; simp
  split at h
  · split at h
    · cases h
    · cases h; simp
  split at h
  · split at h
    · cases h
    · cases e : nameP ns (p + 1) r with
      | error q => rw [e] at h; cases h
      | ok y =>
        have := nameP_len e
        obtain ⟨n, s, q⟩ := y
        rw [e] at h
        cases h
        simp only [List.length_cons] at this ⊢
        omega
  split at h
  · split at h
    · cases frs with
      | nil => cases h
      | cons g gs => cases h; simp
    · cases h
  split at h
  · rename_i hc
    split at h
    · cases e : repP (fr.items.getLast?.getD .nothing) p (c :: r) with
      | error q => rw [e] at h; cases h
      | ok y =>
        have := repP_lt hc e
        rw [e] at h
        cases h
        exact this
    · cases h
  · rename_i h40 h60 _ _
    cases e : atomP 1 0 [] p (c :: r) with
    | error q => rw [e] at h; cases h
    | ok y =>
      have := atom1_len h40 h60 e
      rw [e] at h
      cases h
      exact this
/-- More fuel than bytes: how much is no matter. -/
theorem run_fuel : ∀ (f g : Nat) (st : St), st.b.length < f → st.b.length < g → run f st = run g st
  | 0, _, _, h, _ => absurd h (Nat.not_lt_zero _)
  | _ + 1, 0, _, _, h => absurd h (Nat.not_lt_zero _)
  | f + 1, g + 1, ⟨p, b, ns, frs⟩, hf, hg => by
    rw [run, run]
    cases b with
    | nil => rfl
    | cons c r =>
      cases frs with
      | nil => rfl
      | cons fr frs =>
        simp only
        cases e : stepC p ns fr frs c r with
        | error e => rfl
        | ok st =>
          have l := stepC_len e
          simp only [List.length_cons] at l hf hg
          exact run_fuel f g st (by omega) (by omega)
def go (st : St) : Except Fault (Pat × List (Nat × Name)) := run (st.b.length + 1) st
theorem go_nil {p : Nat} {ns : List (Nat × Name)} {frs : List Fr} : go ⟨p, [], ns, frs⟩ = finish ⟨p, [], ns, frs⟩ := rfl
theorem go_cons {p : Nat} {ns : List (Nat × Name)} {fr : Fr} {frs : List Fr} {c : UInt8} {r : Bytes} : go ⟨p, c :: r, ns, fr :: frs⟩ = match stepC p ns fr frs c r with
    | .error e => .error e
    | .ok st => go st := by
  show run ((c :: r).length + 1) _ = _
  rw [run]
  simp only
  cases e : stepC p ns fr frs c r with
  | error e => rfl
  | ok st =>
    have l := stepC_len e
    exact run_fuel _ _ _ l (Nat.lt_succ_self _)
end Mach
end

section
open PatUtf PatWords
namespace Mach
def NoRep (b : Bytes) : Prop := ∀ c s, b = c :: s → isRep c = false
def EndsP (b : Bytes) : Prop := ∀ c s, b = c :: s → c = 41 ∨ c = 62
def EndsR (b : Bytes) : Prop := ∀ c s, b = c :: s → c = 124 ∨ c = 41 ∨ c = 62
def PatS (f : Nat) : Prop := ∀ (o : Nat) (ns : List (Nat × Name)) (p : Nat) (b : Bytes) (fr : Fr) (frs : List Fr), frs.length = o → 3 * b.length + 3 ≤ f → fr.last = false → fr.items = [] →
  match patP f o ns p b with
  | .error e => go ⟨p, b, ns, fr :: frs⟩ = .error e
  | .ok (a, ns', r, q) => ∃ rows items l, a = alts (rows ++ [seqs items]) ∧ go ⟨p, b, ns, fr :: frs⟩ = go ⟨q, r, ns', { fr with rows := fr.rows ++ rows, items := items, last := l } :: frs⟩ ∧ EndsP r ∧ r.length ≤ b.length
def RowS (f : Nat) : Prop := ∀ (o : Nat) (ns : List (Nat × Name)) (p : Nat) (b : Bytes) (fr : Fr) (frs : List Fr), frs.length = o → 3 * b.length + 2 ≤ f → fr.last = false ∨ NoRep b →
  match rowP f o ns p b with
  | .error e => go ⟨p, b, ns, fr :: frs⟩ = .error e
  | .ok (a, ns', r, q) => ∃ its l, a = seqs its ∧ go ⟨p, b, ns, fr :: frs⟩ = go ⟨q, r, ns', { fr with items := fr.items ++ its, last := l } :: frs⟩ ∧ EndsR r ∧ r.length ≤ b.length
def AtomS (f : Nat) : Prop := ∀ (o : Nat) (ns : List (Nat × Name)) (p : Nat) (c : UInt8) (r : Bytes) (fr : Fr) (frs : List Fr), frs.length = o → 3 * (r.length + 1) + 1 ≤ f → fr.last = false ∨ isRep c = false → ¬ (c = 124 ∨ c = 41 ∨ c = 62) →
  match atomP f o ns p (c :: r) with
  | .error e => go ⟨p, c :: r, ns, fr :: frs⟩ = .error e
  | .ok (a, ns', s, q) => go ⟨p, c :: r, ns, fr :: frs⟩ = go ⟨q, s, ns', fr.push a :: frs⟩ ∧ s.length ≤ r.length

theorem endsP_nil : EndsP [] := fun _ _ h => nomatch h
theorem endsR_nil : EndsR [] := fun _ _ h => nomatch h
theorem isRep_ne {c : UInt8} (h : isRep c = true) : c ≠ 124 ∧ c ≠ 40 ∧ c ≠ 60 ∧ c ≠ 41 ∧ c ≠ 62 := by
  simp only [isRep, Bool.or_eq_true, beq_iff_eq] at h
  rcases h with ((h | h) | h) | h <;> subst h <;> decide
theorem rep_ok (ns : List (Nat × Name)) (q : Nat) (r : Bytes) (fr : Fr) (frs : List Fr) (a : Pat) :
    match repP a q r with
    | .error e => go ⟨q, r, ns, fr.push a :: frs⟩ = .error e
    | .ok (a', r', q') => ∃ l, go ⟨q, r, ns, fr.push a :: frs⟩ = go ⟨q', r', ns, { fr with items := fr.items ++ [a'], last := l } :: frs⟩ ∧ (l = false ∨ NoRep r') ∧ r'.length ≤ r.length := by
  cases r with
  | nil => exact ⟨true, rfl, .inr (fun _ _ h => by cases h), Nat.le_refl _⟩
  | cons c s =>
    cases hc : isRep c with
    | false =>
      have e : repP a q (c :: s) = .ok (a, c :: s, q) := by
        simp only [isRep, Bool.or_eq_false_iff, beq_eq_false_iff_ne] at hc
        unfold repP
        simp only [hc.1.1.1, hc.1.1.2, hc.1.2, hc.2, if_false]
      rw [e]
      exact ⟨true, rfl, .inr (fun d u h => by cases h; exact hc), Nat.le_refl _⟩
    | true =>
      obtain ⟨n1, n2, n3, n4, n5⟩ := isRep_ne hc
      have step : go ⟨q, c :: s, ns, fr.push a :: frs⟩ = match repP a q (c :: s) with
          | .error e => .error e
          | .ok (a', r', q') => go ⟨q', r', ns, { fr with items := fr.items ++ [a'], last := false } :: frs⟩ := by
        rw [go_cons]
        have hl : (fr.items ++ [a]).getLast?.getD .nothing = a := by simp
        have hd : (fr.items ++ [a]).dropLast = fr.items := by simp
        unfold stepC
        simp only [n1, n2, n3, n4, n5, hc, if_false, if_true, or_self, Fr.push, hl]
        cases repP a q (c :: s) with
        | error e => rfl
        | ok y => simp only [Fr.swap, hd]
      cases e : repP a q (c :: s) with
      | error x => rw [step, e]
      | ok y =>
        obtain ⟨a', r', q'⟩ := y
        rw [e] at step
        exact ⟨false, step, .inl rfl, repP_len e⟩
theorem signs_rep {c : UInt8} (h : isRep c = true) : signs.contains c = true ∧ c ≠ 46 ∧ c ≠ 94 ∧ c ≠ 36 ∧ c ≠ 92 ∧ c ≠ 91 := by
  simp only [isRep, Bool.or_eq_true, beq_iff_eq] at h
  rcases h with ((h | h) | h) | h <;> subst h <;> decide
theorem atom_rep {f o : Nat} {ns : List (Nat × Name)} {p : Nat} {c : UInt8} {r : Bytes} (h : isRep c = true) : atomP (f + 1) o ns p (c :: r) = .error ⟨2, p⟩ := by
  obtain ⟨n1, n2, n3, n4, n5⟩ := isRep_ne h
  obtain ⟨k, m1, m2, m3, m4, m5⟩ := signs_rep h
  rw [atomP.eq_def (f + 1)]
  simp only [n2, n3, m1, m2, m3, m4, m5, k, if_false, if_true]
theorem two_open {p : Nat} {ns : List (Nat × Name)} {a b : Fr} {l : List Fr} : go ⟨p, [], ns, a :: b :: l⟩ = .error ⟨1, p⟩ := rfl
theorem main : ∀ f, PatS f ∧ RowS f ∧ AtomS f
  | 0 => ⟨fun _ _ _ _ _ _ _ h => by omega, fun _ _ _ _ _ _ _ h => by omega, fun _ _ _ _ _ _ _ _ h => by omega⟩
  | f + 1 => by
    obtain ⟨hP, hR, hA⟩ := main f
    refine ⟨?_, ?_, ?_⟩
    · intro o ns p b fr frs ho hf hl hi
      rw [patP.eq_2]
      have R := hR o ns p b fr frs ho (by omega) (.inl hl)
      cases e : rowP f o ns p b with
      | error x => rw [e] at R; exact R
      | ok y =>
        obtain ⟨a, ns1, r, q⟩ := y
        rw [e] at R
        obtain ⟨its, l, ea, eg, er, el⟩ := R
        rw [hi, List.nil_append] at eg
        simp only [bind, Except.bind]
        cases r with
        | nil => exact ⟨[], its, l, ea, by rw [eg, List.append_nil], endsP_nil, el⟩
        | cons c s =>
          simp only
          by_cases hc : c = 124
          · rw [if_pos hc]
            have P := hP o ns1 (q + 1) s (({ fr with items := its, last := l } : Fr).bar) frs ho (by simp only [List.length_cons] at el; omega) rfl rfl
            have eg2 : go ⟨p, b, ns, fr :: frs⟩ = go ⟨q + 1, s, ns1, ({ fr with items := its, last := l } : Fr).bar :: frs⟩ := by
              rw [eg, go_cons]
              unfold stepC
              rw [if_pos hc]
            cases e2 : patP f o ns1 (q + 1) s with
            | error x => rw [e2] at P; rw [eg2]; exact P
            | ok y =>
              obtain ⟨d, ns2, u, k⟩ := y
              rw [e2] at P
              obtain ⟨rows, items, l2, ed, eg3, eu, el3⟩ := P
              subst ea
              refine ⟨seqs its :: rows, items, l2, ?_, ?_, eu, by show u.length ≤ b.length; simp only [List.length_cons] at el; omega⟩
              · rw [ed]
                cases rows <;> rfl
              · rw [eg2, eg3]
                simp only [Fr.bar, List.append_assoc, List.singleton_append]
          · rw [if_neg hc]
            refine ⟨[], its, l, ea, by rw [eg, List.append_nil], fun d u h => ?_, el⟩
            cases h
            exact (er _ _ rfl).resolve_left hc
    · intro o ns p b fr frs ho hf hl
      cases b with
      | nil =>
        rw [rowP.eq_2]
        exact ⟨[], fr.last, rfl, by rw [List.append_nil], endsR_nil, Nat.le_refl _⟩
      | cons c r =>
        rw [rowP.eq_3]
        by_cases hc : c = 124 ∨ c = 41 ∨ c = 62
        · rw [if_pos hc]
          exact ⟨[], fr.last, rfl, by rw [List.append_nil], fun _ _ h => (by cases h; exact hc), Nat.le_refl _⟩
        · rw [if_neg hc]
          have A := hA o ns p c r fr frs ho (by simp only [List.length_cons] at hf; omega) (hl.imp id fun h => h _ _ rfl) hc
          cases e : atomP f o ns p (c :: r) with
          | error x => rw [e] at A; exact A
          | ok y =>
            obtain ⟨a, ns1, s, q⟩ := y
            rw [e] at A
            obtain ⟨eg, es⟩ := A
            simp only [bind, Except.bind]
            have P := rep_ok ns1 q s fr frs a
            cases e2 : repP a q s with
            | error x => rw [e2] at P; rw [eg]; exact P
            | ok y =>
              obtain ⟨a2, s2, q2⟩ := y
              rw [e2] at P
              obtain ⟨l2, eg2, en2, es2⟩ := P
              simp only
              have R := hR o ns1 q2 s2 { fr with items := fr.items ++ [a2], last := l2 } frs ho (by simp only [List.length_cons] at hf; omega) en2
              cases e3 : rowP f o ns1 q2 s2 with
              | error x => rw [e3] at R; rw [eg, eg2]; exact R
              | ok y =>
                obtain ⟨d, ns3, u, k⟩ := y
                rw [e3] at R
                obtain ⟨its, l3, ed, eg3, eu, el3⟩ := R
                refine ⟨a2 :: its, l3, by rw [ed]; rfl, ?_, eu, by simp only [List.length_cons]; omega⟩
                rw [eg, eg2, eg3]
                simp only [List.append_assoc, List.singleton_append]
    · intro o ns p c r fr frs ho hf hl hc
      cases hr : isRep c with
      | true =>
        rw [atom_rep hr]
        obtain ⟨n1, n2, n3, n4, n5⟩ := isRep_ne hr
        have h0 : fr.last = false := hl.resolve_right (by rw [hr]; decide)
        show go _ = _
        rw [go_cons]
        unfold stepC
        simp only [n1, n2, n3, n4, n5, hr, h0, if_false, if_true, or_self, Bool.false_eq_true]
      | false =>
        have c1 : c ≠ 124 := fun h => hc (.inl h)
        have c2 : c ≠ 41 := fun h => hc (.inr (.inl h))
        have c3 : c ≠ 62 := fun h => hc (.inr (.inr h))
        by_cases h40 : c = 40
        · subst h40
          rw [atomP.eq_def (f + 1)]
          rw [go_cons]
          unfold stepC
          simp only [(by decide : ¬ (40 : UInt8) = 46), (by decide : ¬ (40 : UInt8) = 94), (by decide : ¬ (40 : UInt8) = 36), (by decide : ¬ (40 : UInt8) = 92), (by decide : ¬ (40 : UInt8) = 91), (by decide : ¬ (40 : UInt8) = 124), if_false, if_true, ho]
          by_cases h5 : OPENED ≤ o
          · simp only [h5, if_true]
          · simp only [h5, if_false]
            have P := hP (o + 1) ns (p + 1) r (fresh [41] none) (fr :: frs) (by rw [List.length_cons, ho]) (by omega) rfl rfl
            cases e : patP f (o + 1) ns (p + 1) r with
            | error x => rw [e] at P; exact P
            | ok y =>
              obtain ⟨a, ns1, u, k⟩ := y
              rw [e] at P
              obtain ⟨rows, items, l, ea, eg, eu, el⟩ := P
              simp only [bind, Except.bind]
              cases u with
              | nil => exact eg.trans two_open
              | cons z v =>
                simp only
                by_cases hz : z = 41
                · subst hz
                  rw [if_pos rfl]
                  refine ⟨?_, by simp only [List.length_cons] at el; omega⟩
                  rw [eg, go_cons]
                  unfold stepC
                  simp only [(by decide : ¬ (41 : UInt8) = 124), (by decide : ¬ (41 : UInt8) = 40), (by decide : ¬ (41 : UInt8) = 60), if_false, if_true, true_or, fresh]
                  rw [ea]
                  rfl
                · rw [if_neg hz]
                  have hz2 : z = 62 := (eu _ _ rfl).resolve_left hz
                  subst hz2
                  show go _ = _
                  rw [eg, go_cons]
                  rfl
        · by_cases h60 : c = 60
          · subst h60
            rw [atomP.eq_def (f + 1)]
            rw [go_cons]
            unfold stepC
            simp only [(by decide : ¬ (60 : UInt8) = 46), (by decide : ¬ (60 : UInt8) = 94), (by decide : ¬ (60 : UInt8) = 36), (by decide : ¬ (60 : UInt8) = 92), (by decide : ¬ (60 : UInt8) = 91), (by decide : ¬ (60 : UInt8) = 124), (by decide : ¬ (60 : UInt8) = 40), if_false, if_true, ho]
            by_cases h5 : OPENED ≤ o
            · simp only [h5, if_true]
            · simp only [h5, if_false]
              cases r with
              | nil => rfl
              | cons d s =>
                unfold nameP
                simp only
                by_cases hd : isSmall d = false
                · simp only [hd, if_true]
                · have hd' : (isSmall d = false) = False := eq_false hd
                  simp only [hd', if_false]
                  by_cases h1 : ((d :: s).takeWhile inName).length = (d :: s).length
                  · simp only [h1, if_true]
                  · simp only [h1, if_false]
                    by_cases h4 : NAMELEN < ((d :: s).takeWhile inName).length ∨ (ns.any fun (y : Nat × Name) => y.2 == (d :: s).takeWhile inName) = true ∨ NAMES ≤ ns.length
                    · simp only [h4, if_true]
                    · simp only [h4, if_false]
                      have hdl : ((d :: s).drop ((d :: s).takeWhile inName).length).length = (d :: s).length - ((d :: s).takeWhile inName).length := List.length_drop
                      cases e6 : (d :: s).drop ((d :: s).takeWhile inName).length with
                      | nil => rfl
                      | cons e7 s7 =>
                        rw [e6] at hdl
                        simp only
                        by_cases h7 : e7 ≠ 32
                        · rw [if_pos h7, if_pos h7]
                        · rw [if_neg h7, if_neg h7]
                          have hs7 : s7.length < (d :: s).length := by simp only [List.length_cons] at hdl ⊢; omega
                          have P := hP (o + 1) (ns ++ [(p + 1, (d :: s).takeWhile inName)]) (p + 2 + ((d :: s).takeWhile inName).length) s7 (fresh [62] (some ((d :: s).takeWhile inName))) (fr :: frs) (by rw [List.length_cons, ho]) (by simp only [List.length_cons] at hf hs7; omega) rfl rfl
                          have ep : p + 1 + 1 + ((d :: s).takeWhile inName).length = p + 2 + ((d :: s).takeWhile inName).length := by omega
                          simp only [ep]
                          cases e : patP f (o + 1) (ns ++ [(p + 1, (d :: s).takeWhile inName)]) (p + 2 + ((d :: s).takeWhile inName).length) s7 with
                          | error x => rw [e] at P; exact P
                          | ok y =>
                            obtain ⟨a, ns1, u, k⟩ := y
                            rw [e] at P
                            obtain ⟨rows, items, l, ea, eg, eu, el⟩ := P
                            simp only [bind, Except.bind]
                            cases u with
                            | nil => exact eg.trans two_open
                            | cons z v =>
                              simp only
                              by_cases hz : z = 62
                              · subst hz
                                rw [if_pos rfl]
                                refine ⟨?_, by simp only [List.length_cons] at el hs7 ⊢; omega⟩
                                rw [eg, go_cons]
                                unfold stepC
                                simp only [(by decide : ¬ (62 : UInt8) = 124), (by decide : ¬ (62 : UInt8) = 40), (by decide : ¬ (62 : UInt8) = 60), if_false, if_true, or_true, fresh]
                                rw [ea]
                                rfl
                              · rw [if_neg hz]
                                have hz2 : z = 41 := (eu _ _ rfl).resolve_right hz
                                subst hz2
                                show go _ = _
                                rw [eg, go_cons]
                                rfl
          · rw [atom_single h40 h60]
            have step : go ⟨p, c :: r, ns, fr :: frs⟩ = match atomP 1 0 [] p (c :: r) with
                | .error e => .error e
                | .ok (a, _, s, q) => go ⟨q, s, ns, fr.push a :: frs⟩ := by
              rw [go_cons]
              unfold stepC
              simp only [c1, c2, c3, h40, h60, hr, if_false, or_self, Bool.false_eq_true]
              cases atomP 1 0 [] p (c :: r) <;> rfl
            cases e : atomP 1 0 [] p (c :: r) with
            | error x => rw [step, e]
            | ok y =>
              have hlen := atom1_len h40 h60 e
              obtain ⟨a, n0, s, q⟩ := y
              rw [e] at step
              exact ⟨step, by simp only [List.length_cons] at hlen; omega⟩
def start (b : Bytes) : St := ⟨0, b, [], [fresh [] none]⟩
/-- **The reader with a pile answers as the specification's reader.** -/
theorem go_read (b : Bytes) : go (start b) = PatWords.read b := by
  have P := (main (4 * b.length + 8)).1 0 [] 0 b (fresh [] none) [] rfl (by omega) rfl rfl
  unfold PatWords.read
  unfold start
  cases e : patP (4 * b.length + 8) 0 [] 0 b with
  | error x => rw [e] at P; exact P
  | ok y =>
    obtain ⟨a, ns, r, q⟩ := y
    rw [e] at P
    obtain ⟨rows, items, l, ea, eg, er, el⟩ := P
    rw [eg]
    cases r with
    | nil =>
      rw [go_nil]
      simp only [finish, Fr.pat, fresh, List.nil_append, ne_eq, not_true, if_false]
      rw [ea]
      rfl
    | cons c s =>
      simp only [ne_eq, reduceCtorEq, not_false_iff, if_true]
      rw [go_cons]
      have hc : c = 41 ∨ c = 62 := er _ _ rfl
      rcases hc with h | h <;> subst h <;> rfl
end Mach
end

section
namespace Pat
open PySem PySem.Spec PyProof.Rows L2
open PySem.FaultX (FaultTxt)
/-! ### small things -/
theorem if_true_of {c : Bool} {A B : Prop} (hc : c = true) (h : A) : if c = true then A else B := by
  rw [if_pos hc]
  exact h
theorem if_false_of {c : Bool} {A B : Prop} (hc : c = false) (h : B) : if c = true then A else B := by
  rw [hc, if_neg Bool.false_ne_true]
  exact h
theorem lk_here {k : Str} {v : V} {r : List (Str × V)} : List.lookup k ((k, v) :: r) = some v := by
  have e : (k == k) = true := beq_self_eq_true k
  simp only [List.lookup, e]
theorem lk_past {k g : Str} {v : V} {r : List (Str × V)} (h : (k == g) = false) : List.lookup k ((g, v) :: r) = List.lookup k r := by
  simp only [List.lookup, h]
theorem put_here {f : Str} {v x : V} {r : List (Str × V)} : putF f v ((f, x) :: r) = (f, v) :: r := if_pos rfl
theorem put_past {f g : Str} {v x : V} {r : List (Str × V)} (h : ¬ g = f) : putF f v ((g, x) :: r) = (g, x) :: putF f v r := if_neg h
/-- all but what stands at a is as it was -/
def Kept (H H' : Hp) (a : Addr) : Prop := ∀ b o, H b = some o → b ≠ a → H' b = some o
theorem Kept.refl (H : Hp) (a : Addr) : Kept H H a := fun _ _ h _ => h
theorem Kept.of_same {H H' : Hp} {a : Addr} (s : Same H H') : Kept H H' a := fun b o h _ => s b o h
theorem Kept.trans {H H1 H2 : Hp} {a : Addr} (x : Kept H H1 a) (y : Kept H1 H2 a) : Kept H H2 a := fun b o h n => y b o (x b o h n) n
theorem Kept.upd {H : Hp} {a : Addr} {o : HO} : Kept H (upd H a o) a := fun b u h n => by
  rw [upd_ne n]
  exact h
theorem Same.upd {H : Hp} {d : Addr} {o : HO} (h : H d = none) : Same H (upd H d o) := fun b u e => by
  rw [upd_ne (ne_of_none e h)]
  exact e
/-! ### the reader -/
/-- its fields -/
def rF (ag : Addr) (p : Nat) (an ab : Addr) : List (Str × V) := [("given", .ref ag), ("place", .int p), ("names", .ref an), ("brackets", .ref ab)]
theorem rF_given {ag p an ab} : (rF ag p an ab).lookup ("given" : Str) = some (.ref ag) := lk_here
theorem rF_place {ag p an ab} : (rF ag p an ab).lookup ("place" : Str) = some (.int (p : Nat)) := (lk_past (by decide +kernel)).trans lk_here
theorem rF_names {ag p an ab} : (rF ag p an ab).lookup ("names" : Str) = some (.ref an) := (lk_past (by decide +kernel)).trans ((lk_past (by decide +kernel)).trans lk_here)
theorem rF_brackets {ag p an ab} : (rF ag p an ab).lookup ("brackets" : Str) = some (.ref ab) := (lk_past (by decide +kernel)).trans ((lk_past (by decide +kernel)).trans ((lk_past (by decide +kernel)).trans lk_here))
theorem rF_no {m : Str} {ag p an ab} (h : (m == ("given" : Str)) = false ∧ (m == ("place" : Str)) = false ∧ (m == ("names" : Str)) = false ∧ (m == ("brackets" : Str)) = false) : (rF ag p an ab).lookup m = none :=
  (lk_past h.1).trans ((lk_past h.2.1).trans ((lk_past h.2.2.1).trans ((lk_past h.2.2.2).trans rfl)))
theorem rF_put {ag an ab} {p q : Nat} : putF "place" (.int (q : Nat)) (rF ag p an ab) = rF ag q an ab := (put_past (by decide +kernel)).trans (congrArg _ put_here)
def RAt (C : Addr) (H : Hp) (a dx ag : Addr) (p : Nat) (an ab : Addr) : Prop := H a = some (.ins C dx (rF ag p an ab))
/-- the bytes as they are given -/
def gv (g : List UInt8) : List V := g.map fun c => V.int (c.toNat : Nat)
theorem gv_len (g : List UInt8) : (gv g).length = g.length := List.length_map _
theorem gv_at {g : List UInt8} {p : Nat} {c : UInt8} (h : g[p]? = some c) : atI (gv g) ((p : Nat) : Int) = some (V.int (c.toNat : Nat)) := atI_nat (by rw [gv, List.getElem?_map, h]; rfl)
theorem seq_kept {K : PySem.W.Frag} {H H' : Hp} {a ag dx C : Addr} {fs : List (Str × V)} {xs : List V} (h : SqL K H ag xs) (e : H a = some (.ins C dx fs)) (k : Kept H H' a) : SqL K H' ag xs := by
  rcases h with (h | ⟨o, h⟩) | h
  · exact .inl (.inl (k _ _ h (ne_of h e (by intro z; cases z))))
  · exact .inl (.inr ⟨o, k _ _ h (ne_of h e (by intro z; cases z))⟩)
  · exact .inr h
/-- a fault's way out -/
def Out (CF : Addr) (e : PatUtf.Fault) (E : XK) : Prop := ∀ (d : Addr) (H' : Hp), H' d = some (.xd (faultF (.int (e.kind : Nat)) (.int (e.place : Nat)))) → E (.ref CF) (some d) H'
/-- codes of a text's signs -/
def cds (z : Str) : List Nat := z.cps.toList
/-! ### what the top has written -/
structure Txt (K : PySem.W.Frag) (mg : Str → Option Value) (C CF fI : Addr) : Prop where
  ft : FaultTxt K mg CF fI
  cl : Cls K C
  nG : NoAttr K C "given"
  nP : NoAttr K C "place"
  nN : NoAttr K C "names"
  nB : NoAttr K C "brackets"
  len : mg "len" = none
  ord : mg "ord" = none
  k1 : ∃ t, mg "ENDS_TOO_SOON" = some (.int 1 t)
  k2 : ∃ t, mg "CANNOT_STAND" = some (.int 2 t)
theorem pe_gi {X : Cx} {x : Str} {i : Int} {pos : Pos} (h : ∃ t, X.mg x = some (.int i t)) (hg : Gl X x := by rfl) (hd : (x == ("__debug__" : Str)) = false := by decide) : PE X (.Name x pos) (tC (.int i)) := by
  obtain ⟨t, h⟩ := h
  exact pe_glob hg h ⟨t, rfl⟩ hd
/-! ### the text -/
def top (i : Nat) : Stmt := PySem.Challenge.pw_toldpatterns_s02_name.main.body.getD i (.Pass ⟨0, 0, 0, 0⟩)
abbrev sR (j : Nat) : Stmt := inClass (top 33) j
def rLt : R2 := rI0 fun i j => .bl (decide (i < j))
end Pat
end

section
namespace Pat
open PySem PySem.Spec PyProof.Rows L2
section
variable {P : Program} {w : World} {K : PySem.W.Frag} {mg : Str → Option Value} {base : Heap} {C CF fI : Addr}
/-! ### need_byte -/
@[irreducible] def spNeed (K : PySem.W.Frag) (C CF : Addr) : Sp := fun vs H Q E => ∃ (a dx ag : Addr) (p : Nat) (an ab : Addr) (g : List UInt8), vs = [.ref a] ∧ RAt C H a dx ag p an ab ∧ SqL K H ag (gv g) ∧
  (p = g.length → Out CF ⟨1, p⟩ E) ∧ (p ≠ g.length → Q .non H)
theorem scNeed : FnScope ["self"] ["self"] (defScope (sR 1)) := ⟨rfl, rfl, rfl, by decide +kernel, rfl, by decide +kernel, by decide +kernel⟩
theorem ok_need {f : Addr} {fd : FuncData} (F : Fun K "need_byte" "Reader.need_byte" (sR 1) f fd) (T : Txt K mg C CF fI) : FnOk P w K mg base (L2.CX P w) 2 f fd ["self"] (spNeed K C CF) := by
  refine F.okX scNeed (fun vs H Q E h => ?_) (fun cdv A outer s H vs Q E hr h => ⟨_, pss_one (ps_if (pt_cmpR op_eq (pe_fld (pv 0) rfl) (pe_callB call_len_seq (by rfl) T.len PySem.boot_len (pa_cons (pe_fld (pv 0) rfl) pa_nil)) (nomark _))
      (pss_one (ps_raiseFault rfl T.ft hr (takes_of rfl rfl rfl rfl) (by exact (pa_cons (pe_gi T.k1) (pa_cons (pe_fld (pv 0) rfl) pa_nil))))) pss_nil), ?_⟩)
  · unfold spNeed at h
    obtain ⟨_, _, _, _, _, _, _, rfl, _⟩ := h
    rfl
  · unfold spNeed at h
    obtain ⟨a, dx, ag, p, an, ab, g, rfl, r, sq, h1, h2⟩ := h
    refine ⟨_, rfl, a, C, dx, _, _, rfl, r, T.cl, T.nP, rF_place, _, rfl, a, C, dx, _, _, rfl, r, T.cl, T.nG, rF_given, ag, _, rfl, .inl sq, ?_⟩
    refine ⟨rfl, _, rfl, ?_⟩
    by_cases c : p = g.length
    · refine if_true_of (by rw [gv_len, c]; exact decide_eq_true rfl) ?_
      exact ⟨_, rfl, a, C, dx, _, _, rfl, r, T.cl, T.nP, rF_place, _, _, rfl, fun d hd => h1 c d _ upd_same⟩
    · refine if_false_of (decide_eq_false fun e => c ?_) (h2 c)
      rw [gv_len] at e
      injection e with e
      omega
/-! ### at -/
/-- whether the byte at p is one of these signs -/
def isAt (g : List UInt8) (p : Nat) (z : Str) : Bool := match g[p]? with
  | none => false
  | some c => (cds z).contains c.toNat
@[irreducible] def spAt (K : PySem.W.Frag) (C : Addr) : Sp := fun vs H Q E => ∃ (a dx ag : Addr) (p : Nat) (an ab : Addr) (g : List UInt8) (z : Str), vs = [.ref a, .str z] ∧ RAt C H a dx ag p an ab ∧ SqL K H ag (gv g) ∧
  p ≤ g.length ∧ (cds z).length ≤ 1000 ∧ (∀ H', Same H H' → Q (.bl (isAt g p z)) H')
theorem scAt : FnScope ["self", "signs", "sign"] ["self", "signs"] (defScope (sR 2)) := ⟨rfl, rfl, rfl, by decide +kernel, rfl, by decide +kernel, by decide +kernel⟩
theorem ok_at {f : Addr} {fd : FuncData} (F : Fun K "at" "Reader.at" (sR 2) f fd) (T : Txt K mg C CF fI) : FnOk P w K mg base CX0 2 f fd ["self", "signs"] (spAt K C) := by
  refine F.ok scAt (fun vs H Q E h => ?_) (fun cdv A outer s H vs Q E hr h => ⟨_, pss_one (ps_ret (pe_and (pe_cmpR op_lt (pe_fld (pv 0) rfl) (pe_callB call_len_seq (by rfl) T.len PySem.boot_len (pa_cons (pe_fld (pv 0) rfl) pa_nil)) (nomark _))
      (pe_one (pe_cmpR op_in_seq (pe_ix ix_list (pe_fld (pv 0) rfl) (pe_fld (pv 0) rfl) (fun _ _ => rfl))
        (pe_lc (own := [("sign", 2)]) (g := gName 2) (tt := tYes) rfl scAt.nd (pi_str (pv 1)) (blkOk_by (N := ["self", "signs", "sign"]) (sc := defScope (sR 2)) (by decide +kernel)) (fun _ _ _ _ _ => pg_name (i := 2) scAt.nd rfl (Or.inl rfl)) (fun _ _ _ _ _ => pts_nil)
          (fun _ _ _ _ _ => pe_callB call_ord (by rfl) T.ord (by decide +kernel) (pa_cons (pv 2) pa_nil))) (by rfl))))), ?_⟩)
  · unfold spAt at h
    obtain ⟨_, _, _, _, _, _, _, _, rfl, _⟩ := h
    rfl
  · unfold spAt at h
    obtain ⟨a, dx, ag, p, an, ab, g, z, rfl, r, sq, hp, hz, hQ⟩ := h
    refine ⟨_, rfl, a, C, dx, _, _, rfl, r, T.cl, T.nP, rF_place, _, rfl, a, C, dx, _, _, rfl, r, T.cl, T.nG, rF_given, ag, _, rfl, .inl sq, ?_⟩
    refine ⟨_, _, rfl, rfl, _, rfl, ?_⟩
    by_cases c : p < g.length
    · refine if_true_of (decide_eq_true (by rw [gv_len]; omega)) ?_
      have hg : g[p]? = some g[p] := List.getElem?_eq_getElem c
      refine ⟨_, rfl, a, C, dx, _, _, rfl, r, T.cl, T.nG, rF_given, _, rfl, a, C, dx, _, _, rfl, r, T.cl, T.nP, rF_place, ag, _, _, _, rfl, rfl, sq, gv_at hg, ?_⟩
      refine ⟨_, rfl, _, rfl, fun D hD => lc_it walk_str (fun i H' => H' D = some (.lst (((cds z).take i).map fun n => V.int (n : Nat))) ∧ Same H H') ?_ (fun _ _ _ _ => True.intro) ?_ ?_⟩
      · exact ⟨upd_same, Same.upd hD⟩
      · rintro i x H1 H2 hi ⟨e1, s1⟩ ⟨rfl, c2, hc, rfl⟩
        have hc' : (cds z)[i]? = some c2 := by rw [cds, Array.getElem?_toList]; exact hc
        refine ⟨rfl, ?_⟩
        unfold tYes
        dsimp only
        rw [if_pos rfl]
        refine ⟨_, rfl, _, rfl, rfl, _, e1, ?_, ?_, ?_⟩
        · rw [List.length_map, List.length_take]
          exact small1000 (by omega)
        · rw [upd_same]
          have e2 : (cds z).take (i + 1) = (cds z).take i ++ [c2] := by rw [List.take_add_one, hc']; rfl
          rw [e2, List.map_append]
          rfl
        · exact fun b o e => by
            rw [upd_ne (ne_of_none e hD)]
            exact s1 b o e
      · rintro H1 ⟨e1, s1⟩
        have el : (cds z).take z.cps.size = cds z := List.take_of_length_le (by simp [cds])
        rw [el] at e1
        refine ⟨D, _, rfl, .inl (SqL.of e1), rfl, by simp [flatV], ?_⟩
        have ei : inV (V.int (g[p].toNat : Nat)) ((cds z).map fun n => V.int (n : Nat)) = isAt g p z := by
          unfold isAt
          rw [hg]
          unfold inV
          rw [List.any_map, Bool.eq_iff_iff, List.any_eq_true, List.contains_iff_mem]
          constructor
          · rintro ⟨n, hn, e⟩
            have e' : ((n : Int) == (g[p].toNat : Int)) = true := e
            have e2 : n = g[p].toNat := Int.ofNat.inj (beq_iff_eq.mp e')
            exact e2 ▸ hn
          · intro hn
            exact ⟨_, hn, beq_self_eq_true (_ : Int)⟩
        rw [if_neg Bool.false_ne_true, ei]
        exact hQ _ s1
    · refine if_false_of (decide_eq_false (by rw [gv_len]; omega)) ?_
      have hg : g[p]? = none := List.getElem?_eq_none (by omega)
      have ei : isAt g p z = false := by unfold isAt; rw [hg]
      rw [← ei]
      exact hQ H (Same.refl H)
end
end Pat
end

section
namespace Pat
open PySem PySem.Spec PyProof.Rows L2
/-- a method and its promise -/
def MOk (P : Program) (w : World) (K : PySem.W.Frag) (mg : Str → Option Value) (base : Heap) (CX : CXT) (C : Addr) (k : Nat) (m : Str) (ps : List Str) (sp : Sp) : Prop :=
  ∃ f fd, Meth K C m f ∧ Binds K fd ps [] ∧ FnOk P w K mg base CX k f fd ps sp
/-- the text of one sign -/
def sg (c : Nat) : Str := ⟨#[c]⟩
section
variable {P : Program} {w : World} {K : PySem.W.Frag} {mg : Str → Option Value} {base : Heap} {C CF fI : Addr}
theorem need_pre {H : Hp} {a dx ag an ab : Addr} {p : Nat} {g : List UInt8} {Q : VK} {E : XK} (r : RAt C H a dx ag p an ab) (sq : SqL K H ag (gv g)) (h1 : p = g.length → Out CF ⟨1, p⟩ E) (h2 : p ≠ g.length → Q .non H) : spNeed K C CF [.ref a] H Q E := by
  unfold spNeed
  exact ⟨a, dx, ag, p, an, ab, g, rfl, r, sq, h1, h2⟩
/-! ### take -/
@[irreducible] def spTake (K : PySem.W.Frag) (C CF : Addr) : Sp := fun vs H Q E => ∃ (a dx ag : Addr) (p : Nat) (an ab : Addr) (g : List UInt8) (z : Str), vs = [.ref a, .str z] ∧ RAt C H a dx ag p an ab ∧ SqL K H ag (gv g) ∧ p ≤ g.length ∧
  match g[p]? with
  | none => Out CF ⟨1, p⟩ E
  | some c => if (cds z).contains c.toNat = true then ∀ H', RAt C H' a dx ag (p + 1) an ab → Kept H H' a → Q (.str (sg c.toNat)) H' else Out CF ⟨2, p⟩ E
theorem scTake : FnScope ["self", "signs", "sign"] ["self", "signs"] (defScope (sR 3)) := ⟨rfl, rfl, rfl, by decide +kernel, rfl, by decide +kernel, by decide +kernel⟩
theorem ok_take {f : Addr} {fd : FuncData} (F : Fun K "take" "Reader.take" (sR 3) f fd) (T : Txt K mg C CF fI) (M1 : MOk P w K mg base (L2.CX P w) C 2 "need_byte" ["self"] (spNeed K C CF)) :
    FnOk P w K mg base (L2.CX P w) 3 f fd ["self", "signs"] (spTake K C CF) := by
  obtain ⟨f1, fd1, m1, b1, G1⟩ := M1
  refine F.okX scTake (fun vs H Q E h => ?_) (fun cdv A outer s H vs Q E hr h => ⟨_, pss_cons (ps_expr (pe_meth0 (pv 0) T.cl m1 G1 hr b1 .nil (passes_call (takes_of rfl rfl rfl rfl) (fun _ _ _ _ h => h))))
      (pss_cons (ps_for (passes_of rfl) rfl (pi_str (pv 1)) (pg_name (i := 2) scTake.nd rfl (Or.inl rfl))
        (pss_one (ps_if (pt_cmpR op_eq (pe_ix ix_list (pe_fld (pv 0) rfl) (pe_fld (pv 0) rfl) (fun _ _ => rfl)) (pe_callB call_ord (by rfl) T.ord (by decide +kernel) (pa_cons (pv 2) pa_nil)) (nomark _))
          (pss_cons (ps_fldaug (pv 0) pe_int in_add) (pss_one (ps_ret (pv 2)))) pss_nil)))
      (pss_one (ps_raiseFault rfl T.ft hr (takes_of rfl rfl rfl rfl) (by exact (pa_cons (pe_gi T.k2) (pa_cons (pe_fld (pv 0) rfl) pa_nil)))))), ?_⟩)
  · unfold spTake at h
    obtain ⟨_, _, _, _, _, _, _, _, rfl, _⟩ := h
    rfl
  · unfold spTake at h
    obtain ⟨a, dx, ag, p, an, ab, g, z, rfl, r, sq, hp, hQ⟩ := h
    refine ⟨_, rfl, a, dx, _, rfl, r, rF_no (by decide +kernel), ?_⟩
    refine need_pre r sq (fun e => ?_) (fun e => ?_)
    · rw [List.getElem?_eq_none (by omega)] at hQ
      exact hQ
    · have hlt : p < g.length := by omega
      have hg : g[p]? = some g[p] := List.getElem?_eq_getElem hlt
      rw [hg] at hQ
      dsimp only at hQ
      refine ⟨_, rfl, _, rfl, for_it walk_str (fun i σ H1 => H1 = H ∧ (∃ v, σ = [some (.ref a), some (.str z), v]) ∧ ∀ n ∈ (cds z).take i, n ≠ g[p].toNat) ?_ (fun _ _ _ _ _ => True.intro) ?_ ?_⟩
      · exact ⟨rfl, ⟨none, rfl⟩, by simp⟩
      · rintro i x σ H1 H2 hi ⟨rfl, ⟨v, rfl⟩, hn⟩ ⟨rfl, c2, hc, rfl⟩
        have hc' : (cds z)[i]? = some c2 := by rw [cds, Array.getElem?_toList]; exact hc
        refine ⟨_, rfl, a, C, dx, _, _, rfl, r, T.cl, T.nG, rF_given, _, rfl, a, C, dx, _, _, rfl, r, T.cl, T.nP, rF_place, ag, _, _, _, rfl, rfl, sq, gv_at hg, _, rfl, _, rfl, rfl, rfl, _, rfl, ?_⟩
        by_cases hcc : c2 = g[p].toNat
        · refine if_true_of (decide_eq_true (by rw [← hcc]; rfl)) ?_
          rw [if_pos (by rw [List.contains_iff_mem, ← hcc]; exact List.mem_of_getElem? hc')] at hQ
          refine ⟨_, rfl, a, C, dx, _, _, rfl, r, T.cl, T.nP, rF_place, _, _, rfl, rfl, dx, _, r, by show 4 < 1000; decide, _, rfl, ?_⟩
          subst hcc
          exact hQ _ (upd_same.trans (congrArg (fun q => some (HO.ins C dx q)) (rF_put (q := p + 1)))) Kept.upd
        · refine if_false_of (decide_eq_false fun e => hcc ?_) ⟨rfl, ⟨_, rfl⟩, ?_⟩
          · injection e with e
            exact (Int.ofNat.inj e).symm
          · have e2 : (cds z).take (i + 1) = (cds z).take i ++ [c2] := by rw [List.take_add_one, hc']; rfl
            rw [e2]
            intro n hn2
            rcases List.mem_append.mp hn2 with h | h
            · exact hn n h
            · rw [List.mem_singleton.mp h]
              exact hcc
      · rintro σ H1 ⟨rfl, ⟨v, rfl⟩, hn⟩
        have el : (cds z).take z.cps.size = cds z := List.take_of_length_le (by simp [cds])
        rw [el] at hn
        rw [if_neg (by rw [List.contains_iff_mem]; exact fun h => hn _ h rfl)] at hQ
        exact ⟨_, rfl, a, C, dx, _, _, rfl, r, T.cl, T.nP, rF_place, _, _, rfl, fun d hd => hQ d _ upd_same⟩
end
end Pat
end

section
namespace Pat
open PySem PySem.Spec PyProof.Rows L2
/-! ### d.get(k, x) of a dict that the top has written -/
/-- at d the top has written a dict that holds r at the key y -/
def KAt (P : Program) (w : World) (K : PySem.W.Frag) (d : Addr) (y : V) (r : Option V) : Prop :=
  (d == sysModules) = false ∧ ∃ (κ : Type) (_ : DecidableEq κ) (knd : KeyKind P w κ) (k : κ) (f : κ → Option Value), (∀ u, RelV y u → knd.is k u = true) ∧ (∀ h : Heap, K.In h → h.MapOf knd d f) ∧ RelO r (f k)
def KDic (K : PySem.W.Frag) (d : Addr) : Prop := ∃ o, K.lookup d = some o ∧ o.cls = .type "dict" ∧ o.dict = none
def tKGet (P : Program) (w : World) (K : PySem.W.Frag) (td ty tx : TE) : TE := fun σ H Q => td σ H fun x H1 => ∃ a, x = .ref a ∧ KDic K a ∧ ty σ H1 fun y H2 => tx σ H2 fun z H3 => ∃ r, KAt P w K a y r ∧ Q (r.getD z) H3
theorem pe_kget2 {X : Cx} {o e f : Expr} {td ty tx : TE} {apos cpos : Pos} (ho : PE X o td) (he : PE X e ty) (hf : PE X f tx) (m : M2 X o "get" apos e f cpos) :
    PE X (.Call (.Attribute o "get" apos) [e, f] [] cpos) (tKGet X.prog X.w X.K td ty tx) := by
  constructor
  intro pins s σ H Q I h
  refine wpAny_Call_method m.base m.few m.line PySem.F.plainAttrs_dict PySem.F.slot_dict_get PySem.F.type_dict_get
    (thn (ho.run pins s σ H _ I h) fun u s1 hh => ?_)
  obtain ⟨x, H1, I1, rx, a, ex, ⟨ob, hob, hcl, hdi⟩, q1⟩ := hh
  subst ex
  obtain rfl : u = Value.ref a := rx
  refine ⟨⟨ob, I1.kIn _ _ hob, hcl⟩, fun b eb => ?_, ?_⟩
  · cases eb
    exact ⟨ob, I1.kIn _ _ hob, hdi⟩
  rw [m.trees]
  refine Calls.callWith_builtin rfl (Calls.evalArgs_plain (Calls.spliced_cons
    (thn (he.run pins s1 σ H1 _ I1 q1) fun iv s2 h2 => ?_)))
  obtain ⟨y, H2, I2, ry, q2⟩ := h2
  refine Calls.spliced_cons (thn (hf.run pins s2 σ H2 _ I2 q2) fun fv s3 h3 => ?_)
  obtain ⟨z, H3, I3, rz, r, ⟨hlow, κ, dq, knd, k, f', hk, hm, hr⟩, q3⟩ := h3
  refine Calls.spliced_nil ?_
  have hmap := hm _ I3.kIn
  refine call_meetsIn PySem.F.slot_dict_get hmap.typeIs PySem.F.entry_dict_get (PySem.F.args_dict_get_3 _ _ _) (meets_dict_get_default knd a (hk _ ry) hlow fv) ?_
  exact ⟨f', hmap, r.getD z, H3, I3.tok _, hr.getD rz, q3⟩
/-- two entries, whole numbers -/
theorem kat_int {P : Program} {w : World} {K : PySem.W.Frag} {d : Addr} {n : Nat} {a1 a2 v1 v2 : Int} {t1 t2 t3 t4 : Tok} (hd : (d == sysModules) = false)
    (hl : K.lookup d = some ⟨.type "dict", none, .dict #[⟨a1, .int a1 t1, .int v1 t2⟩, ⟨a2, .int a2 t3, .int v2 t4⟩] n, #[]⟩) (h1 : hashInt a1 = a1) (h2 : hashInt a2 = a2) (i : Int) :
    KAt P w K d (.int i) (if i = a1 then some (.int v1) else if i = a2 then some (.int v2) else none) := by
  refine ⟨hd, Int, inferInstance, intKind P w, i, fun k => findBy Value.isInt #[⟨a1, .int a1 t1, .int v1 t2⟩, ⟨a2, .int a2 t3, .int v2 t4⟩] k, ?_, ?_, ?_⟩
  · rintro u ⟨t, rfl⟩
    exact beq_self_eq_true i
  · intro h X
    refine ⟨_, _, n, X _ _ hl, ⟨rfl, rfl, rfl⟩, rfl, ?_, fun _ => rfl⟩
    intro e he
    simp only [List.mem_toArray, List.mem_cons, List.not_mem_nil, or_false] at he
    rcases he with rfl | rfl
    · exact ⟨a1, beq_self_eq_true a1, h1.symm⟩
    · exact ⟨a2, beq_self_eq_true a2, h2.symm⟩
  · unfold findBy
    dsimp only
    rw [List.find?_toArray]
    by_cases c1 : i = a1
    · subst c1
      rw [if_pos rfl, List.find?_cons_of_pos (by exact beq_self_eq_true i)]
      exact ⟨t2, rfl⟩
    · rw [if_neg c1, List.find?_cons_of_neg (by intro h; exact c1 (beq_iff_eq.mp h).symm)]
      by_cases c2 : i = a2
      · subst c2
        rw [if_pos rfl, List.find?_cons_of_pos (by exact beq_self_eq_true i)]
        exact ⟨t4, rfl⟩
      · rw [if_neg c2, List.find?_cons_of_neg (by intro h; exact c2 (beq_iff_eq.mp h).symm)]
        trivial
end Pat
end

section
namespace Pat
open PySem PySem.Spec PyProof.Rows L2
/-! ### the mathematics of one scalar value -/
def fb (c : Nat) : Int := match PatUtf.leads c with
  | none => -1
  | some (k, _, _) => (k : Nat)
def lowN (c : Nat) : Nat := if c = 224 then 160 else if c = 240 then 144 else 128
def highN (c : Nat) : Nat := if c = 237 then 159 else if c = 244 then 143 else 191
def markN (k : Nat) : Nat := match k with
  | 0 => 0
  | 1 => 192
  | 2 => 224
  | _ => 240
theorem fb_eq : ∀ c < 256, fb c = if c ≤ 127 then 0 else if 194 ≤ c ∧ c ≤ 223 then 1 else if 224 ≤ c ∧ c ≤ 239 then 2 else if 240 ≤ c ∧ c ≤ 244 then 3 else -1 := by decide +kernel
def leadsB (c : Nat) : Bool := match PatUtf.leads c with
  | none => true
  | some (k, lo, hi) => decide (k ≤ 3) && (decide (k = 0) || (decide (lo = lowN c) && decide (hi = highN c))) && decide (PatUtf.firstBits k c + markN k = c)
theorem leadsB_all : ∀ c < 256, leadsB c = true := by decide +kernel
theorem leads_some {c k lo hi : Nat} (hc : c < 256) (h : PatUtf.leads c = some (k, lo, hi)) : fb c = (k : Nat) ∧ k ≤ 3 ∧ (k = 0 ∨ (lo = lowN c ∧ hi = highN c)) ∧ PatUtf.firstBits k c + markN k = c := by
  refine ⟨by unfold fb; rw [h], ?_⟩
  have q := leadsB_all c hc
  unfold leadsB at q
  rw [h] at q
  simp only [Bool.and_eq_true, Bool.or_eq_true, decide_eq_true_eq] at q
  exact ⟨q.1.1, q.1.2, q.2⟩
theorem leads_none {c : Nat} (h : PatUtf.leads c = none) : fb c = -1 := by unfold fb; rw [h]
theorem low_ge (c : Nat) : 128 ≤ lowN c ∧ highN c ≤ 191 := by
  unfold lowN highN
  constructor <;> (repeat' split) <;> omega
/-! ### following_bytes -/
theorem chain_rd {lo hi c : Int} {Y N : Prop} (h : if lo ≤ c ∧ c ≤ hi then Y else N) :
    if decide (lo ≤ c) = true then (∃ i j, V.int c = V.int i ∧ V.int hi = V.int j ∧ ∃ k, V.bl (decide (i ≤ j)) = V.bl k ∧ if k = true then Y else N) else ∃ k, V.bl false = V.bl k ∧ if k = true then Y else N := by
  by_cases a : lo ≤ c
  · refine if_true_of (decide_eq_true a) ⟨_, _, rfl, rfl, _, rfl, ?_⟩
    by_cases b : c ≤ hi
    · rw [if_pos ⟨a, b⟩] at h
      exact if_true_of (decide_eq_true b) h
    · rw [if_neg (fun x => b x.2)] at h
      exact if_false_of (decide_eq_false b) h
  · rw [if_neg (fun x => a x.1)] at h
    exact if_false_of (decide_eq_false a) ⟨_, rfl, if_false_of rfl h⟩
theorem ite_if {a b : Prop} [Decidable a] [Decidable b] {Y N Y' N' : Prop} (e : a ↔ b) (h1 : Y → Y') (h2 : N → N') (h : if a then Y else N) : if b then Y' else N' := by
  by_cases c : a
  · rw [if_pos (e.mp c)]
    rw [if_pos c] at h
    exact h1 h
  · rw [if_neg (fun x => c (e.mpr x))]
    rw [if_neg c] at h
    exact h2 h
abbrev sFB : Stmt := top 13
section
variable {P : Program} {w : World} {K : PySem.W.Frag} {mg : Str → Option Value} {base : Heap} {C CF fI : Addr}
def spFB : Sp := fun vs H Q _ => ∃ c : Nat, c < 256 ∧ vs = [.int c] ∧ Q (.int (fb c)) H
theorem scFB : FnScope ["first"] ["first"] (defScope sFB) := ⟨rfl, rfl, rfl, by decide +kernel, rfl, by decide +kernel, by decide +kernel⟩
theorem ok_fb {f : Addr} {fd : FuncData} (F : Fun K "following_bytes" "following_bytes" sFB f fd) : FnOk P w K mg base CX0 2 f fd ["first"] spFB := by
  refine F.ok scFB (fun vs H Q E h => ?_) (fun cdv A outer s H vs Q E hr h => ⟨_, pss_cons (ps_if (pt_cmpR op_le (pv 0) pe_int (nomark _)) (pss_one (ps_ret pe_int)) pss_nil)
      (pss_cons (ps_if (pt_chain op_le op_le pe_int (pv 0) pe_int) (pss_one (ps_ret pe_int)) pss_nil)
      (pss_cons (ps_if (pt_chain op_le op_le pe_int (pv 0) pe_int) (pss_one (ps_ret pe_int)) pss_nil)
      (pss_cons (ps_if (pt_chain op_le op_le pe_int (pv 0) pe_int) (pss_one (ps_ret pe_int)) pss_nil)
      (pss_one (ps_ret (pe_un un_neg pe_int)))))), ?_⟩)
  · obtain ⟨_, _, rfl, _⟩ := h
    rfl
  · obtain ⟨c, hc, rfl, hQ⟩ := h
    rw [fb_eq c hc] at hQ
    refine ⟨_, rfl, _, _, rfl, rfl, _, rfl, ?_⟩
    by_cases c1 : c ≤ 127
    · rw [if_pos c1] at hQ
      exact if_true_of (decide_eq_true (by omega)) hQ
    · rw [if_neg c1] at hQ
      refine if_false_of (decide_eq_false (by omega)) ?_
      by_cases c2 : 194 ≤ c ∧ c ≤ 223
      · rw [if_pos c2] at hQ
        refine ⟨_, rfl, _, _, rfl, rfl, _, rfl, chain_rd ?_⟩
        rw [if_pos (by omega)]
        exact hQ
      rw [if_neg c2] at hQ
      refine ⟨_, rfl, _, _, rfl, rfl, _, rfl, chain_rd ?_⟩
      rw [if_neg (by omega)]
      by_cases c3 : 224 ≤ c ∧ c ≤ 239
      · rw [if_pos c3] at hQ
        refine ⟨_, rfl, _, _, rfl, rfl, _, rfl, chain_rd ?_⟩
        rw [if_pos (by omega)]
        exact hQ
      rw [if_neg c3] at hQ
      refine ⟨_, rfl, _, _, rfl, rfl, _, rfl, chain_rd ?_⟩
      rw [if_neg (by omega)]
      by_cases c4 : 240 ≤ c ∧ c ≤ 244
      · rw [if_pos c4] at hQ
        refine ⟨_, rfl, _, _, rfl, rfl, _, rfl, chain_rd ?_⟩
        rw [if_pos (by omega)]
        exact hQ
      rw [if_neg c4] at hQ
      refine ⟨_, rfl, _, _, rfl, rfl, _, rfl, chain_rd ?_⟩
      rw [if_neg (by omega)]
      exact ⟨_, rfl, hQ⟩
end
end Pat
end

section
namespace Pat
open PySem PySem.Spec PyProof.Rows L2
open PySem.FaultX (FaultTxt)
/-- what the top has written ahead of scalar_at -/
structure TxS (P : Program) (w : World) (K : PySem.W.Frag) (mg : Str → Option Value) (CF fI fF : Addr) : Prop where
  ft : FaultTxt K mg CF fI
  k1 : ∃ t, mg "ENDS_TOO_SOON" = some (.int 1 t)
  k2 : ∃ t, mg "CANNOT_STAND" = some (.int 2 t)
  len : mg "len" = none
  range : mg "range" = none
  low : ∃ d, mg "LOWEST_SECOND" = some (.ref d) ∧ KDic K d ∧ ∀ i : Int, KAt P w K d (.int i) (if i = 224 then some (.int 160) else if i = 240 then some (.int 144) else none)
  high : ∃ d, mg "HIGHEST_SECOND" = some (.ref d) ∧ KDic K d ∧ ∀ i : Int, KAt P w K d (.int i) (if i = 237 then some (.int 159) else if i = 244 then some (.int 143) else none)
  marks : ∃ t, mg "FIRST_BYTE_MARKS" = some (.ref t) ∧ ∀ H, SqT K H t [.int 0, .int 192, .int 224, .int 240]
  gF : mg "following_bytes" = some (.ref fF)
  kF : PySem.W.keepIn K (.ref fF) = true
abbrev sSA : Stmt := top 14
section
variable {P : Program} {w : World} {K : PySem.W.Frag} {mg : Str → Option Value} {base : Heap} {C CF fI fF : Addr}
@[irreducible] def spSA (K : PySem.W.Frag) (CF : Addr) : Sp := fun vs H Q E => ∃ (ag : Addr) (p : Nat) (g : List UInt8), vs = [.ref ag, .int p] ∧ SqL K H ag (gv g) ∧ p < g.length ∧ g.length ≤ 1000 ∧
  match PatWords.valueP p (g.drop p) with
  | .error e => Out CF e E
  | .ok (v, _, q) => ∀ H' t, Same H H' → H t = none → H' t = some (.tup [.int (v : Nat), .int (q : Nat)]) → Q (.ref t) H'
abbrev nmSA : List Str := ["given", "place", "first", "following", "value", "behind", "lowest", "highest", "at"]
theorem scSA : FnScope nmSA ["given", "place"] (defScope sSA) := ⟨rfl, rfl, rfl, by decide +kernel, rfl, by decide +kernel, by decide +kernel⟩
theorem drop_cons {g : List UInt8} {p : Nat} {c : UInt8} (h : g[p]? = some c) : g.drop p = c :: g.drop (p + 1) := by
  obtain ⟨hl, e⟩ := List.getElem?_eq_some_iff.mp h
  rw [List.drop_eq_getElem_cons hl, e]
def SAfin (CF : Addr) (H : Hp) (Q : VK) (E : XK) (p n : Nat) (res : Except Nat (Nat × List UInt8)) : Prop := match res with
  | .error q => Out CF (if q = n then ⟨1, q⟩ else ⟨2, q⟩) E
  | .ok (v, r) => ∀ H' t, Same H H' → H t = none → H' t = some (.tup [.int (v : Nat), .int ((p + (n - p - r.length) : Nat))]) → Q (.ref t) H'
theorem lowGet (c : Nat) : ((if (c : Int) = 224 then some (V.int 160) else if (c : Int) = 240 then some (V.int 144) else none).getD (V.int 128)) = V.int (lowN c : Nat) := by
  unfold lowN
  by_cases h1 : c = 224
  · rw [if_pos (by omega), if_pos h1]; rfl
  · rw [if_neg (by omega), if_neg h1]
    by_cases h2 : c = 240
    · rw [if_pos (by omega), if_pos h2]; rfl
    · rw [if_neg (by omega), if_neg h2]; rfl
theorem highGet (c : Nat) : ((if (c : Int) = 237 then some (V.int 159) else if (c : Int) = 244 then some (V.int 143) else none).getD (V.int 191)) = V.int (highN c : Nat) := by
  unfold highN
  by_cases h1 : c = 237
  · rw [if_pos (by omega), if_pos h1]; rfl
  · rw [if_neg (by omega), if_neg h1]
    by_cases h2 : c = 244
    · rw [if_pos (by omega), if_pos h2]; rfl
    · rw [if_neg (by omega), if_neg h2]; rfl
theorem follow_step {k lo hi x q : Nat} {c : UInt8} {b : List UInt8} : PatUtf.follow (k + 1) lo hi x q (c :: b) = if lo ≤ c.toNat ∧ c.toNat ≤ hi then PatUtf.follow k 128 191 (64 * x + c.toNat % 64) (q + 1) b else .error q := rfl
theorem ok_sa {f : Addr} {fd fdF : FuncData} (F : Fun K "scalar_at" "scalar_at" sSA f fd) (T : TxS P w K mg CF fI fF) (GF : FnOk P w K mg base CX0 2 fF fdF ["first"] spFB) (bF : Binds K fdF ["first"] []) :
    FnOk P w K mg base (L2.CX P w) 3 f fd ["given", "place"] (spSA K CF) := by
  obtain ⟨dl, hl1, hl2, hl3⟩ := T.low
  obtain ⟨dh, hh1, hh2, hh3⟩ := T.high
  obtain ⟨tm, hm1, hm2⟩ := T.marks
  refine F.okX scSA (fun vs H Q E h => ?_) (fun cdv A outer s H vs Q E hr h => ⟨_, pss_cons (ps_set (i := 2) scSA.nd rfl (Or.inl rfl) (pe_ix ix_list (pv 0) (pv 1) (fun _ _ => rfl)))
      (pss_cons (ps_set (i := 3) scSA.nd rfl (Or.inl rfl) (pe_call GF hr rfl T.gF T.kF bF .nil pass0 (pa_cons (pv 2) pa_nil)))
      (pss_cons (ps_if (pt_cmpR op_lt (pv 3) pe_int (nomark _)) (pss_one (ps_raiseFault rfl T.ft hr (takes_of rfl rfl rfl rfl) (by exact (pa_cons (pe_gi T.k2) (pa_cons (pv 1) pa_nil))))) pss_nil)
      (pss_cons (ps_set (i := 4) scSA.nd rfl (Or.inl rfl) (pe_op op_sub (pv 2) (pe_ix ix_tup (pe_glob (v := .ref tm) rfl hm1 rfl) (pv 3) (fun _ _ => rfl))))
      (pss_cons (ps_set (i := 5) scSA.nd rfl (Or.inl rfl) (pe_op op_add (pe_op op_add (pv 1) pe_int) (pv 3)))
      (pss_cons (ps_set (i := 6) scSA.nd rfl (Or.inl rfl) (pe_kget2 (pe_glob (v := .ref dl) rfl hl1 rfl) (pv 2) pe_int ⟨by rfl, by rfl, by rfl, by rfl⟩))
      (pss_cons (ps_set (i := 7) scSA.nd rfl (Or.inl rfl) (pe_kget2 (pe_glob (v := .ref dh) rfl hh1 rfl) (pv 2) pe_int ⟨by rfl, by rfl, by rfl, by rfl⟩))
      (pss_cons (ps_for (passes_of rfl) rfl (pi_range2 (by rfl) T.range (pa_cons (pe_op op_add (pv 1) pe_int) (pa_cons (pv 5) pa_nil))) (pg_name (i := 8) scSA.nd rfl (Or.inl rfl))
        (pss_cons (ps_if (pt_cmpR op_eq (pv 8) (pe_callB call_len_seq (by rfl) T.len PySem.boot_len (pa_cons (pv 0) pa_nil)) (nomark _)) (pss_one (ps_raiseFault rfl T.ft hr (takes_of rfl rfl rfl rfl) (by exact (pa_cons (pe_gi T.k1) (pa_cons (pv 8) pa_nil))))) pss_nil)
        (pss_cons (ps_if (PW.pt (pw_or (pt_cmpR op_lt (pe_ix ix_list (pv 0) (pv 8) (fun _ _ => rfl)) (pv 6) (nomark _)) (pw_or1 (pt_cmpR op_gt (pe_ix ix_list (pv 0) (pv 8) (fun _ _ => rfl)) (pv 7) (nomark _)))))
          (pss_one (ps_raiseFault rfl T.ft hr (takes_of rfl rfl rfl rfl) (by exact (pa_cons (pe_gi T.k2) (pa_cons (pv 8) pa_nil))))) pss_nil)
        (pss_cons (ps_set (i := 4) scSA.nd rfl (Or.inl rfl) (pe_op op_sub (pe_op op_add (pe_op op_mul (pv 4) pe_int) (pe_ix ix_list (pv 0) (pv 8) (fun _ _ => rfl))) pe_int))
        (pss_cons (ps_set (i := 6) scSA.nd rfl (Or.inl rfl) pe_int) (pss_one (ps_set (i := 7) scSA.nd rfl (Or.inl rfl) pe_int)))))))
      (pss_one (ps_ret (pe_tup (pa_cons (pv 4) (pa_cons (pv 5) pa_nil)))))))))))), ?_⟩)
  · unfold spSA at h
    obtain ⟨_, _, _, rfl, _⟩ := h
    rfl
  · unfold spSA at h
    obtain ⟨ag, p, g, rfl, sq, hp, h1000, hQ⟩ := h
    have hg : g[p]? = some g[p] := List.getElem?_eq_getElem hp
    have hc : g[p].toNat < 256 := g[p].toNat_lt
    rw [drop_cons hg] at hQ
    unfold PatWords.valueP at hQ
    unfold PatUtf.scalarAt at hQ
    dsimp only at hQ
    refine ⟨_, rfl, _, rfl, ag, _, _, _, rfl, rfl, sq, gv_at hg, _, rfl, g[p].toNat, hc, rfl, ?_⟩
    refine ⟨_, rfl, _, _, rfl, rfl, _, rfl, ?_⟩
    cases e : PatUtf.leads g[p].toNat with
    | none =>
      rw [e] at hQ
      dsimp only at hQ
      rw [leads_none e]
      refine if_true_of rfl ?_
      rw [if_neg (by simp only [List.length_cons]; omega)] at hQ
      exact ⟨_, rfl, _, _, rfl, fun d hd => hQ d _ upd_same⟩
    | some z =>
      obtain ⟨k, lo, hi⟩ := z
      rw [e] at hQ
      dsimp only at hQ
      obtain ⟨ef, hk3, hlh, hb⟩ := leads_some hc e
      rw [ef]
      refine if_false_of (decide_eq_false (by omega)) ?_
      have hn : p + (g[p] :: g.drop (p + 1)).length = g.length := by
        rw [← drop_cons hg, List.length_drop]
        omega
      have hn2 : (g[p] :: g.drop (p + 1)).length = g.length - p := by omega
      have hF : SAfin CF H Q E p g.length (PatUtf.follow k lo hi (PatUtf.firstBits k g[p].toNat) (p + 1) (g.drop (p + 1))) := by
        rw [hn, hn2] at hQ
        unfold SAfin
        cases ef2 : PatUtf.follow k lo hi (PatUtf.firstBits k g[p].toNat) (p + 1) (g.drop (p + 1)) with
        | error q => rw [ef2] at hQ; exact hQ
        | ok z => rw [ef2] at hQ; exact hQ
      clear hQ
      have hF2 : SAfin CF H Q E p g.length (PatUtf.follow k (lowN g[p].toNat) (highN g[p].toNat) (PatUtf.firstBits k g[p].toNat) (p + 1) (g.drop (p + 1))) := by
        rcases hlh with h0 | ⟨h1, h2⟩
        · subst h0
          exact hF
        · rw [← h1, ← h2]
          exact hF
      clear hF
      have hm : ∃ m, atI [V.int 0, .int 192, .int 224, .int 240] ((k : Nat) : Int) = some m ∧ m = .int ((markN k : Nat) : Int) := by
        have : k = 0 ∨ k = 1 ∨ k = 2 ∨ k = 3 := by omega
        rcases this with h | h | h | h <;> subst h <;> exact ⟨_, rfl, rfl⟩
      obtain ⟨m, hm, rfl⟩ := hm
      refine ⟨_, rfl, _, rfl, tm, _, _, _, rfl, rfl, hm2 _, hm, _, _, rfl, rfl, ?_⟩
      refine ⟨_, rfl, _, _, rfl, rfl, _, rfl, _, _, rfl, rfl, ?_⟩
      refine ⟨_, rfl, hl2, _, rfl, _, hl3 _, ?_⟩
      refine ⟨_, rfl, hh2, _, rfl, _, hh3 _, ?_⟩
      refine ⟨_, rfl, _, _, rfl, rfl, _, rfl, _, _, rfl, ⟨by omega, by omega, by omega, by omega⟩, ?_⟩
      have en : ((p : Int) + 1 + (k : Nat) - ((p : Int) + 1)).toNat = k := by omega
      rw [lowGet, highGet, en]
      obtain ⟨hlo, hhi⟩ := low_ge g[p].toNat
      refine for_range (lo := (p : Int) + 1) (n := k) (fun i σ H1 => H1 = H ∧ i ≤ k ∧ ∃ (x l h : Nat) (xi bi : Int) (v8 : Option V),
        σ = [some (.ref ag), some (.int p), some (.int g[p].toNat), some (.int k), some (.int xi), some (.int bi), some (.int l), some (.int h), v8] ∧ xi = x ∧ bi = ((p + 1 + k : Nat) : Int) ∧
        128 ≤ l ∧ h ≤ 191 ∧ p + 1 + i ≤ g.length ∧ SAfin CF H Q E p g.length (PatUtf.follow (k - i) l h x (p + 1 + i) (g.drop (p + 1 + i)))) ?_ ?_ ?_
      · exact ⟨rfl, Nat.zero_le _, PatUtf.firstBits k g[p].toNat, lowN g[p].toNat, highN g[p].toNat, _, _, none, rfl, by omega, by omega, hlo, hhi, by omega, hF2⟩
      · rintro i σ H1 hi ⟨rfl, _, x, l, h, xi, bi, v8, rfl, hx, hbi, h1, h2, h3, hf⟩
        have ei : ((p : Int) + 1 + (i : Nat)) = ((p + 1 + i : Nat) : Int) := by omega
        rw [ei]
        refine ⟨_, rfl, _, rfl, ag, _, rfl, .inl sq, rfl, _, rfl, ?_⟩
        obtain ⟨j, hj⟩ : ∃ j, k - i = j + 1 := ⟨k - i - 1, by omega⟩
        rw [hj] at hf
        by_cases c1 : p + 1 + i = g.length
        · refine if_true_of (by rw [gv_len, c1]; exact decide_eq_true rfl) ?_
          rw [c1, List.drop_length] at hf
          have hf' : Out CF (if g.length = g.length then ⟨1, g.length⟩ else ⟨2, g.length⟩) E := hf
          rw [if_pos rfl] at hf'
          rw [c1]
          exact ⟨_, rfl, _, _, rfl, fun d hd => hf' d _ upd_same⟩
        · have hq : p + 1 + i < g.length := by omega
          refine if_false_of (decide_eq_false fun e => c1 ?_) ?_
          · rw [gv_len] at e
            injection e with e
            omega
          · have hgq : g[p + 1 + i]? = some g[p + 1 + i] := List.getElem?_eq_getElem hq
            rw [drop_cons hgq, follow_step] at hf
            refine ⟨_, rfl, _, rfl, ag, _, _, _, rfl, rfl, sq, gv_at hgq, _, rfl, _, _, rfl, rfl, _, rfl, ?_⟩
            by_cases a1 : g[p + 1 + i].toNat < l
            · rw [if_neg (by omega)] at hf
              have hf' : Out CF (if p + 1 + i = g.length then ⟨1, p + 1 + i⟩ else ⟨2, p + 1 + i⟩) E := hf
              rw [if_neg c1] at hf'
              exact if_true_of (decide_eq_true (by omega)) (if_true_of rfl ⟨_, rfl, _, _, rfl, fun d hd => hf' d _ upd_same⟩)
            · refine if_false_of (decide_eq_false (by omega)) ⟨_, rfl, _, rfl, ag, _, _, _, rfl, rfl, sq, gv_at hgq, _, rfl, _, _, rfl, rfl, _, rfl, ?_⟩
              by_cases a2 : h < g[p + 1 + i].toNat
              · rw [if_neg (by omega)] at hf
                have hf' : Out CF (if p + 1 + i = g.length then ⟨1, p + 1 + i⟩ else ⟨2, p + 1 + i⟩) E := hf
                rw [if_neg c1] at hf'
                exact if_true_of (decide_eq_true (by omega)) ⟨_, rfl, _, _, rfl, fun d hd => hf' d _ upd_same⟩
              · rw [if_pos (by omega)] at hf
                refine if_false_of (decide_eq_false (by omega)) ?_
                refine ⟨_, rfl, _, _, rfl, rfl, .inr ⟨by decide, by decide⟩, _, rfl, _, rfl, ag, _, _, _, rfl, rfl, sq, gv_at hgq, _, _, rfl, rfl, _, _, rfl, rfl, ?_⟩
                refine ⟨rfl, by omega, 64 * x + g[p + 1 + i].toNat % 64, 128, 191, _, _, _, rfl, by omega, hbi, by omega, by omega, by omega, ?_⟩
                have ek : k - (i + 1) = j := by omega
                rw [ek]
                exact hf
      · rintro σ H1 ⟨rfl, _, x, l, h, xi, bi, v8, rfl, hx, hbi, h1, h2, h3, hf⟩
        rw [Nat.sub_self] at hf
        have hf' : ∀ H' t, Same H1 H' → H1 t = none → H' t = some (.tup [.int (x : Nat), .int ((p + (g.length - p - (g.drop (p + 1 + k)).length) : Nat))]) → Q (.ref t) H' := hf
        have eb : p + (g.length - p - (g.drop (p + 1 + k)).length) = p + 1 + k := by
          rw [List.length_drop]
          omega
        rw [eb] at hf'
        subst hx hbi
        exact ⟨_, rfl, _, rfl, by show 2 ≤ sizeLine; decide, fun t ht => hf' _ t (Same.upd ht) ht upd_same⟩
end
end Pat
end

section
namespace Pat
open PySem PySem.Spec PyProof.Rows L2
open PySem.FaultX (FaultTxt)
open PatUtf (Fault)
/-! ### where a reader stands behind what it has read -/
theorem follow_drop : ∀ (k lo hi x p : Nat) (b : List UInt8) (z : Nat × List UInt8), PatUtf.follow k lo hi x p b = .ok z → z.2 = b.drop k ∧ k ≤ b.length
  | 0, _, _, _, _, b, z, h => by
    simp only [PatUtf.follow] at h
    cases h
    exact ⟨rfl, Nat.zero_le _⟩
  | k + 1, lo, hi, x, p, [], z, h => by
    simp only [PatUtf.follow] at h
    cases h
  | k + 1, lo, hi, x, p, c :: b, z, h => by
    simp only [PatUtf.follow] at h
    split at h
    · obtain ⟨h1, h2⟩ := follow_drop k _ _ _ _ b z h
      exact ⟨h1, Nat.succ_le_succ h2⟩
    · cases h
theorem valueP_drop {g : List UInt8} {p v q : Nat} {r : List UInt8} (h : PatWords.valueP p (g.drop p) = .ok (v, r, q)) : p < q ∧ q ≤ g.length ∧ r = g.drop q := by
  unfold PatWords.valueP at h
  cases e : PatUtf.scalarAt p (g.drop p) with
  | error x => rw [e] at h; cases h
  | ok y =>
    obtain ⟨v', r'⟩ := y
    rw [e] at h
    cases h
    cases eb : g.drop p with
    | nil => rw [eb] at e; cases e
    | cons c b =>
      rw [eb] at e
      have hl : (g.drop p).length = b.length + 1 := by rw [eb]; rfl
      rw [List.length_drop] at hl
      unfold PatUtf.scalarAt at e
      dsimp only at e
      cases ec : PatUtf.leads c.toNat with
      | none => rw [ec] at e; cases e
      | some z =>
        obtain ⟨k, lo, hi⟩ := z
        rw [ec] at e
        obtain ⟨h1, h2⟩ := follow_drop _ _ _ _ _ _ _ e
        dsimp only at h1
        have hb : b = g.drop (p + 1) := by
          have : (g.drop p).drop 1 = b := by rw [eb]; rfl
          rw [← this, List.drop_drop]
        have hr : r = g.drop (p + 1 + k) := by rw [h1, hb, List.drop_drop]
        have hrl : r.length = b.length - k := by rw [h1, List.length_drop]
        have eq : p + ((c :: b).length - r.length) = p + 1 + k := by
          rw [hrl, List.length_cons]
          omega
        rw [eq]
        exact ⟨by omega, by omega, hr⟩
/-! ### signs -/
theorem u8_all {p : UInt8 → Bool} (h : ∀ n < 256, p (UInt8.ofNat n) = true) (c : UInt8) : p c = true := by
  have e : UInt8.ofNat c.toNat = c := UInt8.ofNat_toNat
  rw [← e]
  exact h _ c.toNat_lt
abbrev zSet : Str := "\\][-^"
abbrev zPart : Str := "|*+?{}.^$\\[]()<>-ntdwsDWS"
abbrev zEnd : Str := "|*+?{}.^$\\[]()<>-nt"
abbrev zAtom : Str := "|*+?{}.^$\\[]()<>-ntdwsDWSb"
abbrev zSigns : Str := "|*+?{}.^$\\[]()<>"
abbrev zNoVal : Str := "dwsDWSb"
/-- what an escape stands for: none: no one value -/
def escO (d : Nat) : Option Nat := if (cds zNoVal).contains d = true then none else some (if d = 110 then 10 else if d = 116 then 9 else d)
theorem set_signs (c : UInt8) : (cds zSet).contains c.toNat = PatWords.setSigns.contains c := by
  have := u8_all (p := fun c => (cds zSet).contains c.toNat == PatWords.setSigns.contains c) (by decide +kernel) c
  exact beq_iff_eq.mp this
theorem out_signs (c : UInt8) : (cds zSigns).contains c.toNat = PatWords.signs.contains c := by
  have := u8_all (p := fun c => (cds zSigns).contains c.toNat == PatWords.signs.contains c) (by decide +kernel) c
  exact beq_iff_eq.mp this
def escB (c : UInt8) : Bool := match PatWords.classOf c with
  | some _ => (cds zPart).contains c.toNat && (!(cds zEnd).contains c.toNat && ((cds zAtom).contains c.toNat && (escO c.toNat == none && c != 98)))
  | none => match PatWords.escapedOf c with
    | some x => (cds zPart).contains c.toNat && ((cds zEnd).contains c.toNat && ((cds zAtom).contains c.toNat && (escO c.toNat == some x && c != 98)))
    | none => !(cds zPart).contains c.toNat && (!(cds zEnd).contains c.toNat && ((cds zAtom).contains c.toNat == (c == 98)))
theorem escB_all (c : UInt8) : escB c = true := u8_all (by decide +kernel) c
end Pat
end

section
namespace Pat
open PySem PySem.Spec PyProof.Rows L2
open PySem.FaultX (FaultTxt)
open PatUtf (Fault)
open PatWords (valueP oneP partsP)
/-- one of a set's ends: a value, or none: no one value; where it ends -/
def oneE (z : Str) (g : List UInt8) (p : Nat) : Except Fault (Option Nat × Nat) := match g[p]? with
  | none => .error ⟨1, p⟩
  | some c => if c = 92 then (match g[p + 1]? with
      | none => .error ⟨1, p + 1⟩
      | some d => if (cds z).contains d.toNat = true then .ok (escO d.toNat, p + 2) else .error ⟨2, p + 1⟩)
    else if (cds zSet).contains c.toNat = true then .error ⟨2, p⟩ else match valueP p (g.drop p) with
      | .error e => .error e
      | .ok (v, _, q) => .ok (some v, q)
def oneW (g : List UInt8) (p : Nat) : Except Fault (Option Nat × Nat) := match oneP p (g.drop p) with
  | .error e => .error e
  | .ok (.inl x, _, q) => .ok (some x, q)
  | .ok (.inr _, _, q) => .ok (none, q)
theorem drop_none {g : List UInt8} {p : Nat} (h : g[p]? = none) : g.drop p = [] := List.drop_eq_nil_of_le (List.getElem?_eq_none_iff.mp h)
theorem oneE_part (g : List UInt8) (p : Nat) : oneE zPart g p = oneW g p := by
  unfold oneE oneW
  cases hc : g[p]? with
  | none => rw [drop_none hc]; rfl
  | some c =>
    rw [drop_cons hc]
    unfold oneP
    dsimp only
    by_cases h92 : c = 92
    · rw [if_pos h92, if_pos h92]
      cases hd : g[p + 1]? with
      | none => rw [drop_none hd]
      | some d =>
        rw [drop_cons hd]
        dsimp only
        have hb := escB_all d
        unfold escB at hb
        cases e1 : PatWords.classOf d with
        | some l =>
          rw [e1] at hb
          simp only [Bool.and_eq_true, Bool.not_eq_true', beq_iff_eq] at hb
          rw [if_pos hb.1, hb.2.2.2.1]
        | none =>
          rw [e1] at hb
          cases e2 : PatWords.escapedOf d with
          | some x =>
            rw [e2] at hb
            simp only [Bool.and_eq_true, Bool.not_eq_true', beq_iff_eq] at hb
            rw [if_pos hb.1, hb.2.2.2.1]
          | none =>
            rw [e2] at hb
            simp only [Bool.and_eq_true, Bool.not_eq_true', beq_iff_eq] at hb
            rw [if_neg (by rw [hb.1]; exact Bool.false_ne_true)]
    · rw [if_neg h92, if_neg h92, set_signs]
      by_cases hs : PatWords.setSigns.contains c = true
      · rw [if_pos hs, if_pos hs]
      · rw [if_neg hs, if_neg hs]
        cases valueP p (c :: g.drop (p + 1)) with
        | error e => rfl
        | ok y => rfl
/-- an end of a part: none of it is no value -/
theorem oneE_end (g : List UInt8) (p : Nat) : oneE zEnd g p = (match oneP p (g.drop p) with
    | .error e => .error e
    | .ok (.inl x, _, q) => .ok (some x, q)
    | .ok (.inr _, _, _) => .error ⟨2, p + 1⟩) := by
  unfold oneE
  cases hc : g[p]? with
  | none => rw [drop_none hc]; rfl
  | some c =>
    rw [drop_cons hc]
    unfold oneP
    dsimp only
    by_cases h92 : c = 92
    · rw [if_pos h92, if_pos h92]
      cases hd : g[p + 1]? with
      | none => rw [drop_none hd]
      | some d =>
        rw [drop_cons hd]
        dsimp only
        have hb := escB_all d
        unfold escB at hb
        cases e1 : PatWords.classOf d with
        | some l =>
          rw [e1] at hb
          simp only [Bool.and_eq_true, Bool.not_eq_true', beq_iff_eq] at hb
          rw [if_neg (by rw [hb.2.1]; exact Bool.false_ne_true)]
        | none =>
          rw [e1] at hb
          cases e2 : PatWords.escapedOf d with
          | some x =>
            rw [e2] at hb
            simp only [Bool.and_eq_true, Bool.not_eq_true', beq_iff_eq] at hb
            rw [if_pos hb.2.1, hb.2.2.2.1]
          | none =>
            rw [e2] at hb
            simp only [Bool.and_eq_true, Bool.not_eq_true', beq_iff_eq] at hb
            rw [if_neg (by rw [hb.2.1]; exact Bool.false_ne_true)]
    · rw [if_neg h92, if_neg h92, set_signs]
      by_cases hs : PatWords.setSigns.contains c = true
      · rw [if_pos hs, if_pos hs]
      · rw [if_neg hs, if_neg hs]
        cases valueP p (c :: g.drop (p + 1)) with
        | error e => rfl
        | ok y => rfl
theorem oneE_ok {z : Str} {g : List UInt8} {p q : Nat} {x : Option Nat} (h : oneE z g p = .ok (x, q)) : p < q ∧ q ≤ g.length := by
  unfold oneE at h
  cases hc : g[p]? with
  | none => rw [hc] at h; cases h
  | some c =>
    rw [hc] at h
    dsimp only at h
    split at h
    · cases hd : g[p + 1]? with
      | none => rw [hd] at h; cases h
      | some d =>
        rw [hd] at h
        dsimp only at h
        split at h
        · cases h
          have := (List.getElem?_eq_some_iff.mp hd).1
          omega
        · cases h
    · split at h
      · cases h
      · cases e : valueP p (g.drop p) with
        | error x => rw [e] at h; cases h
        | ok y =>
          obtain ⟨v, r, q'⟩ := y
          rw [e] at h
          cases h
          obtain ⟨h1, h2, _⟩ := valueP_drop e
          exact ⟨h1, h2⟩
theorem oneP_drop {g : List UInt8} {p q : Nat} {x} {r : List UInt8} (h : oneP p (g.drop p) = .ok (x, r, q)) : r = g.drop q := by
  unfold oneP at h
  cases hc : g[p]? with
  | none => rw [drop_none hc] at h; cases h
  | some c =>
    rw [drop_cons hc] at h
    dsimp only at h
    split at h
    · cases hd : g[p + 1]? with
      | none => rw [drop_none hd] at h; cases h
      | some d =>
        rw [drop_cons hd] at h
        dsimp only at h
        split at h
        · cases h; rfl
        · split at h
          · cases h; rfl
          · cases h
    · split at h
      · cases h
      · rw [← drop_cons hc] at h
        cases e : valueP p (g.drop p) with
        | error x => rw [e] at h; cases h
        | ok y =>
          obtain ⟨v, r', q'⟩ := y
          rw [e] at h
          cases h
          exact (valueP_drop e).2.2
/-- a part of a set: where it ends -/
def partE (g : List UInt8) (p : Nat) : Except Fault Nat := match oneE zPart g p with
  | .error e => .error e
  | .ok (none, q) => .ok q
  | .ok (some lo, q) => if isAt g q "-" = true then (match oneE zEnd g (q + 1) with
      | .error e => .error e
      | .ok (none, k) => .ok k
      | .ok (some hi, k) => if hi < lo then .error ⟨6, p⟩ else .ok k) else .ok q
theorem isAt_none {g : List UInt8} {p : Nat} {z : Str} (h : g[p]? = none) : isAt g p z = false := by unfold isAt; rw [h]
theorem isAt_some {g : List UInt8} {p : Nat} {z : Str} {c : UInt8} (h : g[p]? = some c) : isAt g p z = (cds z).contains c.toNat := by unfold isAt; rw [h]
theorem u8_eq {c : UInt8} {n : Nat} (hn : n < 256) : c.toNat = n ↔ c = UInt8.ofNat n := by
  constructor
  · intro h
    rw [← h]
    exact UInt8.ofNat_toNat.symm
  · intro h
    rw [h, UInt8.toNat_ofNat']
    omega
theorem at_dash {c : UInt8} : (cds "-").contains c.toNat = decide (c = 45) := by
  have := u8_all (p := fun c => (cds "-").contains c.toNat == decide (c = 45)) (by decide +kernel) c
  exact beq_iff_eq.mp this
theorem at_close {c : UInt8} : (cds "]").contains c.toNat = decide (c = 93) := by
  have := u8_all (p := fun c => (cds "]").contains c.toNat == decide (c = 93)) (by decide +kernel) c
  exact beq_iff_eq.mp this
theorem parts_part {f : Nat} {s : Bool} {acc : List (Nat × Nat)} {g : List UInt8} {p : Nat} (h : ∀ c, g[p]? = some c → c ≠ 93) :
    match partE g p with
    | .error e => partsP (f + 1) s acc p (g.drop p) = .error e
    | .ok q => ∃ acc', partsP (f + 1) s acc p (g.drop p) = partsP f true acc' q (g.drop q) := by
  unfold partE
  rw [oneE_part]
  unfold oneW
  cases hc : g[p]? with
  | none => rw [drop_none hc]; rfl
  | some c =>
    have h93 := h c hc
    rw [drop_cons hc]
    rw [partsP]
    simp only [h93, if_false]
    rw [← drop_cons hc]
    cases e : oneP p (g.drop p) with
    | error x => rfl
    | ok y =>
      obtain ⟨x, r, q⟩ := y
      have hr := oneP_drop e
      subst hr
      simp only [bind, Except.bind]
      cases x with
      | inr l => exact ⟨_, rfl⟩
      | inl lo =>
        dsimp only
        cases hd : g[q]? with
        | none =>
          rw [isAt_none hd, if_neg Bool.false_ne_true, drop_none hd]
          refine ⟨acc, ?_⟩
          rw [drop_none hd]
          cases f <;> rfl
        | some d =>
          rw [isAt_some hd, at_dash, drop_cons hd]
          dsimp only
          by_cases h45 : d = 45
          · rw [if_pos (decide_eq_true h45), if_pos h45, oneE_end]
            cases e2 : oneP (q + 1) (g.drop (q + 1)) with
            | error x => rfl
            | ok y2 =>
              obtain ⟨y, v, k⟩ := y2
              have hv := oneP_drop e2
              subst hv
              cases y with
              | inr l => rfl
              | inl hi =>
                dsimp only
                by_cases hlt : hi < lo
                · rw [if_pos hlt, if_pos hlt]
                · rw [if_neg hlt, if_neg hlt]
                  exact ⟨_, rfl⟩
          · rw [if_neg (by simpa using h45), if_neg h45]
            exact ⟨_, by rw [drop_cons hd]⟩
theorem partE_ok {g : List UInt8} {p q : Nat} (h : partE g p = .ok q) : p < q ∧ q ≤ g.length := by
  unfold partE at h
  cases e : oneE zPart g p with
  | error x => rw [e] at h; cases h
  | ok y =>
    obtain ⟨x, q'⟩ := y
    obtain ⟨h1, h2⟩ := oneE_ok e
    rw [e] at h
    cases x with
    | none => cases h; exact ⟨h1, h2⟩
    | some lo =>
      dsimp only at h
      split at h
      · cases e2 : oneE zEnd g (q' + 1) with
        | error x => rw [e2] at h; cases h
        | ok y2 =>
          obtain ⟨x2, k⟩ := y2
          obtain ⟨h3, h4⟩ := oneE_ok e2
          rw [e2] at h
          cases x2 with
          | none => cases h; exact ⟨by omega, h4⟩
          | some hi =>
            dsimp only at h
            split at h
            · cases h
            · cases h; exact ⟨by omega, h4⟩
      · cases h; exact ⟨h1, h2⟩
end Pat
end

section
namespace Pat
open PySem PySem.Spec PyProof.Rows L2
open PySem.FaultX (FaultTxt)
open PatUtf (Fault)
open PatWords (valueP oneP partsP)
/-- a def of the module and its promise -/
def GOk (P : Program) (w : World) (K : PySem.W.Frag) (mg : Str → Option Value) (base : Heap) (CX : CXT) (k : Nat) (x : Str) (ps : List Str) (sp : Sp) : Prop :=
  ∃ f fd, mg x = some (.ref f) ∧ PySem.W.keepIn K (.ref f) = true ∧ Binds K fd ps [] ∧ FnOk P w K mg base CX k f fd ps sp
/-- the reader at a stands at p of g -/
def At (K : PySem.W.Frag) (C : Addr) (H : Hp) (a dx ag : Addr) (p : Nat) (an ab : Addr) (g : List UInt8) : Prop := RAt C H a dx ag p an ab ∧ SqL K H ag (gv g) ∧ p ≤ g.length ∧ g.length ≤ 1000
/-- a way out: a fault, or a value with the reader at another place and all else as it was -/
def Ret (C CF : Addr) (a dx ag an ab : Addr) (H : Hp) (Q : VK) (E : XK) (res : Except Fault (V × Nat)) : Prop := match res with
  | .error e => Out CF e E
  | .ok (v, q) => ∀ H', RAt C H' a dx ag q an ab → Kept H H' a → Q v H'
def takeE (z : Str) (g : List UInt8) (p : Nat) : Except Fault (V × Nat) := match g[p]? with
  | none => .error ⟨1, p⟩
  | some c => if (cds z).contains c.toNat = true then .ok (.str (sg c.toNat), p + 1) else .error ⟨2, p⟩
section
variable {P : Program} {w : World} {K : PySem.W.Frag} {mg : Str → Option Value} {base : Heap} {C CF fI : Addr} {H H1 H2 : Hp} {a dx ag an ab : Addr} {p q : Nat} {g : List UInt8} {z : Str} {Q : VK} {E : XK}
theorem At.next (h : At K C H a dx ag p an ab g) (r : RAt C H1 a dx ag q an ab) (k : Kept H H1 a) (hq : q ≤ g.length) : At K C H1 a dx ag q an ab g := ⟨r, seq_kept h.2.1 h.1 k, hq, h.2.2.2⟩
theorem At.same (h : At K C H a dx ag p an ab g) (s : Same H H1) : At K C H1 a dx ag p an ab g := ⟨s _ _ h.1, s.seq h.2.1, h.2.2.1, h.2.2.2⟩
theorem take_use (h : At K C H a dx ag p an ab g) (r : Ret C CF a dx ag an ab H Q E (takeE z g p)) : spTake K C CF [.ref a, .str z] H Q E := by
  unfold spTake
  refine ⟨a, dx, ag, p, an, ab, g, z, rfl, h.1, h.2.1, h.2.2.1, ?_⟩
  unfold takeE at r
  cases e : g[p]? with
  | none => rw [e] at r; exact r
  | some c =>
    rw [e] at r
    dsimp only at r ⊢
    by_cases hc : (cds z).contains c.toNat = true
    · rw [if_pos hc] at r ⊢
      exact r
    · rw [if_neg hc] at r ⊢
      exact r
theorem at_use (h : At K C H a dx ag p an ab g) (hz : (cds z).length ≤ 1000) (r : ∀ H', Same H H' → Q (.bl (isAt g p z)) H') : spAt K C [.ref a, .str z] H Q E := by
  unfold spAt
  exact ⟨a, dx, ag, p, an, ab, g, z, rfl, h.1, h.2.1, h.2.2.1, hz, r⟩
theorem need_use (h : At K C H a dx ag p an ab g) (h1 : p = g.length → Out CF ⟨1, p⟩ E) (h2 : p < g.length → Q .non H) : spNeed K C CF [.ref a] H Q E :=
  need_pre h.1 h.2.1 h1 fun n => h2 (by have := h.2.2.1; omega)
theorem sa_use {ag : Addr} {p : Nat} (sq : SqL K H ag (gv g)) (hp : p < g.length) (hl : g.length ≤ 1000) (r : match valueP p (g.drop p) with
    | .error e => Out CF e E
    | .ok (v, _, q) => ∀ H' t, Same H H' → H t = none → H' t = some (.tup [.int (v : Nat), .int (q : Nat)]) → Q (.ref t) H') : spSA K CF [.ref ag, .int p] H Q E := by
  unfold spSA
  exact ⟨ag, p, g, rfl, sq, hp, hl, r⟩
theorem Ret.mono {res : Except Fault (V × Nat)} {H0 : Hp} (r : Ret C CF a dx ag an ab H0 Q E res) (k : Kept H0 H a) : Ret C CF a dx ag an ab H Q E res := by
  unfold Ret at r ⊢
  cases res with
  | error e => exact r
  | ok y => exact fun H' r' k' => r H' r' (k.trans k')
/-! ### take_plain -/
def plainE (z : Str) (g : List UInt8) (p : Nat) : Except Fault (V × Nat) := match g[p]? with
  | none => .error ⟨1, p⟩
  | some c => if (cds z).contains c.toNat = true then .error ⟨2, p⟩ else match valueP p (g.drop p) with
    | .error e => .error e
    | .ok (v, _, q) => .ok (.int (v : Nat), q)
@[irreducible] def spPlain (K : PySem.W.Frag) (C CF : Addr) : Sp := fun vs H Q E => ∃ (a dx ag : Addr) (p : Nat) (an ab : Addr) (g : List UInt8) (z : Str), vs = [.ref a, .str z] ∧ At K C H a dx ag p an ab g ∧ (cds z).length ≤ 1000 ∧ Ret C CF a dx ag an ab H Q E (plainE z g p)
theorem scPlain : FnScope ["self", "barred", "found"] ["self", "barred"] (defScope (sR 4)) := ⟨rfl, rfl, rfl, by decide +kernel, rfl, by decide +kernel, by decide +kernel⟩
theorem ok_plain {f : Addr} {fd : FuncData} (F : Fun K "take_plain" "Reader.take_plain" (sR 4) f fd) (T : Txt K mg C CF fI) (M1 : MOk P w K mg base (L2.CX P w) C 2 "need_byte" ["self"] (spNeed K C CF))
    (M2 : MOk P w K mg base CX0 C 2 "at" ["self", "signs"] (spAt K C)) (G3 : GOk P w K mg base (L2.CX P w) 3 "scalar_at" ["given", "place"] (spSA K CF)) :
    FnOk P w K mg base (L2.CX P w) 4 f fd ["self", "barred"] (spPlain K C CF) := by
  obtain ⟨f1, fd1, m1, b1, G1⟩ := M1
  obtain ⟨f2, fd2, m2, b2, G2⟩ := M2
  obtain ⟨f3, fd3, gg3, k3, b3, G3⟩ := G3
  refine F.okX scPlain (fun vs H Q E h => ?_) (fun cdv A outer s H vs Q E hr h => ⟨_, pss_cons (ps_expr (pe_meth0 (pv 0) T.cl m1 G1 (hr.mono (by decide)) b1 .nil (passes_call (takes_of rfl rfl rfl rfl) (fun _ _ _ _ h => h))))
      (pss_cons (ps_if (pt_val (pe_meth (pv 0) T.cl m2 G2 (hr.mono (by decide)) b2 .nil pass0 (pa_cons (pv 1) pa_nil)))
        (pss_one (ps_raiseFault rfl T.ft hr (takes_of rfl rfl rfl rfl) (by exact (pa_cons (pe_gi T.k2) (pa_cons (pe_fld (pv 0) rfl) pa_nil))))) pss_nil)
      (pss_cons (ps_set (i := 2) scPlain.nd rfl (Or.inl rfl) (pe_call G3 hr rfl gg3 k3 b3 .nil (passes_call (takes_of rfl rfl rfl rfl) (fun _ _ _ _ h => h)) (by exact (pa_cons (pe_fld (pv 0) rfl) (pa_cons (pe_fld (pv 0) rfl) pa_nil)))))
      (pss_cons (ps_fld (pv 0) (pe_ix ix_tup (pv 2) pe_int (fun _ _ => rfl)) rfl)
      (pss_one (ps_ret (pe_ix ix_tup (pv 2) pe_int (fun _ _ => rfl))))))), ?_⟩)
  · unfold spPlain at h
    obtain ⟨_, _, _, _, _, _, _, _, rfl, _⟩ := h
    rfl
  · unfold spPlain at h
    obtain ⟨a, dx, ag, p, an, ab, g, z, rfl, h, hz, hQ⟩ := h
    refine ⟨_, rfl, a, dx, _, rfl, h.1, rF_no (by decide +kernel), ?_⟩
    refine need_use h (fun e => ?_) (fun e => ?_)
    · unfold plainE at hQ
      rw [List.getElem?_eq_none (by omega)] at hQ
      exact hQ
    · have hg : g[p]? = some g[p] := List.getElem?_eq_getElem e
      refine ⟨_, rfl, a, dx, _, rfl, h.1, rF_no (by decide +kernel), _, rfl, ?_⟩
      refine at_use h hz fun H1 s1 => ?_
      have h1 := h.same s1
      refine ⟨_, rfl, ?_⟩
      unfold plainE at hQ
      rw [hg] at hQ
      dsimp only at hQ
      rw [isAt_some hg]
      by_cases hc : (cds z).contains g[p].toNat = true
      · rw [if_pos hc] at hQ
        refine if_true_of hc ?_
        have hQ' : Out CF ⟨2, p⟩ E := hQ
        exact ⟨_, rfl, a, C, dx, _, _, rfl, h1.1, T.cl, T.nP, rF_place, _, _, rfl, fun d hd => hQ' d _ upd_same⟩
      · rw [if_neg hc] at hQ
        refine if_false_of (by simpa using hc) ?_
        refine ⟨_, rfl, a, C, dx, _, _, rfl, h1.1, T.cl, T.nG, rF_given, _, rfl, a, C, dx, _, _, rfl, h1.1, T.cl, T.nP, rF_place, ?_⟩
        refine sa_use h1.2.1 e h1.2.2.2 ?_
        cases ev : valueP p (g.drop p) with
        | error x =>
          rw [ev] at hQ
          exact hQ
        | ok y =>
          obtain ⟨v, r, q⟩ := y
          rw [ev] at hQ
          dsimp only
          intro H2 t s2 hn ht
          have hQ' : ∀ H', RAt C H' a dx ag q an ab → Kept H H' a → Q (.int (v : Nat)) H' := hQ
          have h2 := h1.same s2
          have ta : t ≠ a := (ne_of_none h1.1 hn).symm
          refine ⟨_, rfl, t, _, _, _, rfl, rfl, SqT.of ht, rfl, ?_⟩
          refine ⟨_, rfl, a, C, dx, _, rfl, h2.1, T.cl, T.nP, by show 4 < 1000; decide, ?_⟩
          refine ⟨_, rfl, t, _, _, _, rfl, rfl, SqT.of (by rw [upd_ne ta]; exact ht), rfl, ?_⟩
          exact hQ' _ (upd_same.trans (congrArg (fun q => some (HO.ins C dx q)) rF_put)) ((Kept.of_same (s1.trans s2)).trans Kept.upd)
end
end Pat
end

section
namespace Pat
open PySem PySem.Spec PyProof.Rows L2
open PySem.FaultX (FaultTxt)
open PatUtf (Fault)
open PatWords (valueP oneP partsP)
def optV : Option Nat → V
  | none => .non
  | some n => .int (n : Nat)
/-- two entries, texts of one sign -/
theorem kat_str {P : Program} {w : World} {K : PySem.W.Frag} {d : Addr} {n : Nat} {a1 a2 : Nat} {v1 v2 : Int} {t1 t2 t3 t4 : Tok} (hd : (d == sysModules) = false)
    (hl : K.lookup d = some ⟨.type "dict", none, .dict #[⟨PyData.keyHash w.params (sg a1), .str (sg a1) t1, .int v1 t2⟩, ⟨PyData.keyHash w.params (sg a2), .str (sg a2) t3, .int v2 t4⟩] n, #[]⟩) (i : Nat) :
    KAt P w K d (.str (sg i)) (if i = a1 then some (.int v1) else if i = a2 then some (.int v2) else none) := by
  have inj : ∀ {a b : Nat}, sg a = sg b → a = b := fun {a b} e => by
    have e2 : (#[a] : Array Nat) = #[b] := congrArg Str.cps e
    simpa using e2
  refine ⟨hd, Str, inferInstance, strKind P w, sg i, fun k => findBy Value.isStrOf #[⟨PyData.keyHash w.params (sg a1), .str (sg a1) t1, .int v1 t2⟩, ⟨PyData.keyHash w.params (sg a2), .str (sg a2) t3, .int v2 t4⟩] k, ?_, ?_, ?_⟩
  · rintro u ⟨t, rfl⟩
    exact PySem.strKind_is P w (sg i) t
  · intro h X
    refine PySem.W.mapOf_K X hl ?_
    exact ⟨⟨_, _, rfl, rfl⟩, ⟨_, _, rfl, rfl⟩, trivial⟩
  · unfold findBy
    dsimp only
    rw [List.find?_toArray]
    have is_ : ∀ (a : Nat) (t : Tok), Value.isStrOf (sg i) (.str (sg a) t) = decide (i = a) := fun a t => by
      by_cases c : i = a
      · subst c
        rw [decide_eq_true rfl]
        exact PySem.strKind_is P w (sg i) t
      · rw [decide_eq_false c]
        cases e : Value.isStrOf (sg i) (.str (sg a) t) with
        | false => rfl
        | true =>
          exact absurd (inj (Value.isStrOf_inj _ _ _ e (PySem.strKind_is P w (sg a) t))) c
    by_cases c1 : i = a1
    · rw [if_pos c1, List.find?_cons_of_pos (by show Value.isStrOf _ _ = true; rw [is_]; exact decide_eq_true c1)]
      exact ⟨t2, rfl⟩
    · rw [if_neg c1, List.find?_cons_of_neg (by show ¬ Value.isStrOf _ _ = true; rw [is_, decide_eq_false c1]; exact Bool.false_ne_true)]
      by_cases c2 : i = a2
      · rw [if_pos c2, List.find?_cons_of_pos (by show Value.isStrOf _ _ = true; rw [is_]; exact decide_eq_true c2)]
        exact ⟨t4, rfl⟩
      · rw [if_neg c2, List.find?_cons_of_neg (by show ¬ Value.isStrOf _ _ = true; rw [is_, decide_eq_false c2]; exact Bool.false_ne_true)]
        trivial
/-! ### escape_value -/
structure TxE (P : Program) (w : World) (K : PySem.W.Frag) (mg : Str → Option Value) : Prop where
  noV : ∃ t, mg "VALUELESS_ESCAPES" = some (.str zNoVal t)
  ctrl : ∃ d, mg "CONTROL_VALUES" = some (.ref d) ∧ KDic K d ∧ ∀ i : Nat, KAt P w K d (.str (sg i)) (if i = 110 then some (.int 10) else if i = 116 then some (.int 9) else none)
  ord : mg "ord" = none
theorem pe_gs {X : Cx} {x : Str} {z : Str} {pos : Pos} (h : ∃ t, X.mg x = some (.str z t)) (hg : Gl X x := by rfl) (hd : (x == ("__debug__" : Str)) = false := by decide) : PE X (.Name x pos) (tC (.str z)) := by
  obtain ⟨t, h⟩ := h
  exact pe_glob hg h ⟨t, rfl⟩ hd
abbrev sEV : Stmt := top 31
section
variable {P : Program} {w : World} {K : PySem.W.Frag} {mg : Str → Option Value} {base : Heap} {C CF fI : Addr}
@[irreducible] def spEsc : Sp := fun vs H Q _ => ∃ c : Nat, vs = [.str (sg c)] ∧ Q (optV (escO c)) H
theorem scEV : FnScope ["sign"] ["sign"] (defScope sEV) := ⟨rfl, rfl, rfl, by decide +kernel, rfl, by decide +kernel, by decide +kernel⟩
theorem esc_use {c : Nat} {H : Hp} {Q : VK} {E : XK} (h : Q (optV (escO c)) H) : spEsc [.str (sg c)] H Q E := by
  unfold spEsc
  exact ⟨c, rfl, h⟩
theorem ok_esc {f : Addr} {fd : FuncData} (F : Fun K "escape_value" "escape_value" sEV f fd) (T : TxE P w K mg) : FnOk P w K mg base CX0 2 f fd ["sign"] spEsc := by
  obtain ⟨d, hd1, hd2, hd3⟩ := T.ctrl
  refine F.ok scEV (fun vs H Q E h => ?_) (fun cdv A outer s H vs Q E hr h => ⟨_, pss_cons (ps_if (pt_cmpR op_in_sign (pv 0) (pe_gs T.noV) (by rfl)) (pss_one (ps_ret pe_non)) pss_nil)
      (pss_one (ps_ret (pe_kget2 (pe_glob (v := .ref d) rfl hd1 rfl) (pv 0) (pe_callB call_ord (by rfl) T.ord (by decide +kernel) (pa_cons (pv 0) pa_nil)) ⟨by rfl, by rfl, by rfl, by rfl⟩))), ?_⟩)
  · unfold spEsc at h
    obtain ⟨_, rfl, _⟩ := h
    rfl
  · unfold spEsc at h
    obtain ⟨c, rfl, hQ⟩ := h
    refine ⟨_, rfl, c, zNoVal, rfl, rfl, ?_⟩
    unfold escO at hQ
    by_cases hc : (cds zNoVal).contains c = true
    · rw [if_pos hc] at hQ
      exact ⟨_, rfl, if_true_of (decide_eq_true (List.contains_iff_mem.mp hc)) hQ⟩
    · rw [if_neg hc] at hQ
      refine ⟨_, rfl, if_false_of (decide_eq_false fun h => hc (List.contains_iff_mem.mpr h)) ?_⟩
      refine ⟨_, rfl, hd2, _, rfl, _, rfl, _, rfl, rfl, _, hd3 _, ?_⟩
      by_cases c1 : c = 110
      · rw [if_pos c1] at hQ ⊢
        exact hQ
      · rw [if_neg c1] at hQ ⊢
        by_cases c2 : c = 116
        · rw [if_pos c2] at hQ ⊢
          exact hQ
        · rw [if_neg c2] at hQ ⊢
          exact hQ
end
end Pat
end

section
namespace Pat
open PySem PySem.Spec PyProof.Rows L2
open PySem.FaultX (FaultTxt)
open PatUtf (Fault)
open PatWords (valueP oneP partsP)
theorem at_sign {z : Str} {n : UInt8} (h : ∀ k < 256, (fun c : UInt8 => (cds z).contains c.toNat == decide (c = n)) (UInt8.ofNat k) = true) (c : UInt8) : (cds z).contains c.toNat = decide (c = n) :=
  beq_iff_eq.mp (u8_all (p := fun c => (cds z).contains c.toNat == decide (c = n)) h c)
def retO (r : Except Fault (Option Nat × Nat)) : Except Fault (V × Nat) := match r with
  | .error e => .error e
  | .ok (x, q) => .ok (optV x, q)
def escE (z : Str) (g : List UInt8) (p : Nat) : Except Fault (Option Nat × Nat) := match g[p + 1]? with
  | none => .error ⟨1, p + 1⟩
  | some d => if (cds z).contains d.toNat = true then .ok (escO d.toNat, p + 2) else .error ⟨2, p + 1⟩
theorem oneE_esc {z : Str} {g : List UInt8} {p : Nat} (h : g[p]? = some 92) : oneE z g p = escE z g p := by
  unfold oneE
  rw [h]
  dsimp only
  rw [if_pos rfl]
  rfl
theorem oneE_plain {z : Str} {g : List UInt8} {p : Nat} (h : g[p]? ≠ some 92) : retO (oneE z g p) = plainE zSet g p := by
  unfold oneE plainE
  cases e : g[p]? with
  | none => rfl
  | some c =>
    rw [e] at h
    dsimp only
    rw [if_neg (fun x => h (by rw [x]))]
    by_cases hc : (cds zSet).contains c.toNat = true
    · rw [if_pos hc, if_pos hc]
      rfl
    · rw [if_neg hc, if_neg hc]
      cases valueP p (g.drop p) with
      | error e => rfl
      | ok y => rfl
theorem takeE_yes {z : Str} {g : List UInt8} {p : Nat} {c : UInt8} (h : g[p]? = some c) (hc : (cds z).contains c.toNat = true) : takeE z g p = .ok (.str (sg c.toNat), p + 1) := by
  unfold takeE
  rw [h]
  dsimp only
  rw [if_pos hc]
theorem takeE_no {z : Str} {g : List UInt8} {p : Nat} {c : UInt8} (h : g[p]? = some c) (hc : (cds z).contains c.toNat = false) : takeE z g p = .error ⟨2, p⟩ := by
  unfold takeE
  rw [h]
  dsimp only
  rw [if_neg (by rw [hc]; exact Bool.false_ne_true)]
theorem takeE_end {z : Str} {g : List UInt8} {p : Nat} (h : g[p]? = none) : takeE z g p = .error ⟨1, p⟩ := by
  unfold takeE
  rw [h]
theorem lt_of_some {g : List UInt8} {p : Nat} {c : UInt8} (h : g[p]? = some c) : p < g.length := (List.getElem?_eq_some_iff.mp h).1
section
variable {P : Program} {w : World} {K : PySem.W.Frag} {mg : Str → Option Value} {base : Heap} {C CF fI : Addr} {H H1 H2 : Hp} {a dx ag an ab : Addr} {p q : Nat} {g : List UInt8} {z : Str} {Q : VK} {E : XK}
/-! ### take_escape -/
@[irreducible] def spEscape (K : PySem.W.Frag) (C CF : Addr) : Sp := fun vs H Q E => ∃ (a dx ag : Addr) (p : Nat) (an ab : Addr) (g : List UInt8) (z : Str), vs = [.ref a, .str z] ∧ At K C H a dx ag p an ab g ∧ g[p]? = some 92 ∧ Ret C CF a dx ag an ab H Q E (retO (escE z g p))
theorem escape_use (h : At K C H a dx ag p an ab g) (h92 : g[p]? = some 92) (r : Ret C CF a dx ag an ab H Q E (retO (escE z g p))) : spEscape K C CF [.ref a, .str z] H Q E := by
  unfold spEscape
  exact ⟨a, dx, ag, p, an, ab, g, z, rfl, h, h92, r⟩
theorem scEscape : FnScope ["self", "escapes"] ["self", "escapes"] (defScope (sR 5)) := ⟨rfl, rfl, rfl, by decide +kernel, rfl, by decide +kernel, by decide +kernel⟩
theorem ok_escape {f : Addr} {fd : FuncData} (F : Fun K "take_escape" "Reader.take_escape" (sR 5) f fd) (T : Txt K mg C CF fI) (M1 : MOk P w K mg base (L2.CX P w) C 3 "take" ["self", "signs"] (spTake K C CF))
    (G2 : GOk P w K mg base CX0 2 "escape_value" ["sign"] spEsc) : FnOk P w K mg base (L2.CX P w) 4 f fd ["self", "escapes"] (spEscape K C CF) := by
  obtain ⟨f1, fd1, m1, b1, G1⟩ := M1
  obtain ⟨f2, fd2, gg2, k2, b2, G2⟩ := G2
  refine F.okX scEscape (fun vs H Q E h => ?_) (fun cdv A outer s H vs Q E hr h => ⟨_, pss_cons (ps_expr (pe_meth (pv 0) T.cl m1 G1 hr b1 .nil (passes_call (takes_of rfl rfl rfl rfl) (fun _ _ _ _ h => h)) (by exact (pa_cons pe_str pa_nil))))
      (pss_one (ps_ret (pe_call G2 (hr.mono (by decide)) rfl gg2 k2 b2 .nil pass0 (by exact (pa_cons (pe_meth (pv 0) T.cl m1 G1 hr b1 .nil (passes_call (takes_of rfl rfl rfl rfl) (fun _ _ _ _ h => h)) (by exact (pa_cons (pv 1) pa_nil))) pa_nil))))), ?_⟩)
  · unfold spEscape at h
    obtain ⟨_, _, _, _, _, _, _, _, rfl, _⟩ := h
    rfl
  · unfold spEscape at h
    obtain ⟨a, dx, ag, p, an, ab, g, z, rfl, h, h92, hQ⟩ := h
    have hlt := lt_of_some h92
    refine ⟨_, rfl, a, dx, _, rfl, h.1, rF_no (by decide +kernel), ?_⟩
    refine take_use h ?_
    rw [takeE_yes h92 (by decide +kernel)]
    intro H1 r1 k1
    have h1 := h.next r1 k1 (by omega)
    refine ⟨_, rfl, a, dx, _, rfl, h1.1, rF_no (by decide +kernel), _, rfl, ?_⟩
    refine take_use h1 ?_
    unfold escE at hQ
    cases hd : g[p + 1]? with
    | none =>
      rw [hd] at hQ
      rw [takeE_end hd]
      exact hQ
    | some d =>
      rw [hd] at hQ
      dsimp only at hQ
      by_cases hc : (cds z).contains d.toNat = true
      · rw [if_pos hc] at hQ
        rw [takeE_yes hd hc]
        intro H2 r2 k2
        refine esc_use ?_
        have hQ' : ∀ H', RAt C H' a dx ag (p + 2) an ab → Kept H H' a → Q (optV (escO d.toNat)) H' := hQ
        exact hQ' H2 r2 (k1.trans k2)
      · rw [if_neg hc] at hQ
        rw [takeE_no hd (by simpa using hc)]
        exact hQ
/-! ### take_one -/
@[irreducible] def spOne (K : PySem.W.Frag) (C CF : Addr) : Sp := fun vs H Q E => ∃ (a dx ag : Addr) (p : Nat) (an ab : Addr) (g : List UInt8) (z : Str), vs = [.ref a, .str z] ∧ At K C H a dx ag p an ab g ∧ Ret C CF a dx ag an ab H Q E (retO (oneE z g p))
theorem one_use (h : At K C H a dx ag p an ab g) (r : Ret C CF a dx ag an ab H Q E (retO (oneE z g p))) : spOne K C CF [.ref a, .str z] H Q E := by
  unfold spOne
  exact ⟨a, dx, ag, p, an, ab, g, z, rfl, h, r⟩
theorem plain_use (h : At K C H a dx ag p an ab g) (hz : (cds z).length ≤ 1000) (r : Ret C CF a dx ag an ab H Q E (plainE z g p)) : spPlain K C CF [.ref a, .str z] H Q E := by
  unfold spPlain
  exact ⟨a, dx, ag, p, an, ab, g, z, rfl, h, hz, r⟩
theorem scOne : FnScope ["self", "escapes"] ["self", "escapes"] (defScope (sR 6)) := ⟨rfl, rfl, rfl, by decide +kernel, rfl, by decide +kernel, by decide +kernel⟩
theorem ok_one {f : Addr} {fd : FuncData} (F : Fun K "take_one" "Reader.take_one" (sR 6) f fd) (T : Txt K mg C CF fI) (hS : ∃ t, mg "SET_SIGNS" = some (.str zSet t))
    (M1 : MOk P w K mg base CX0 C 2 "at" ["self", "signs"] (spAt K C)) (M2 : MOk P w K mg base (L2.CX P w) C 4 "take_escape" ["self", "escapes"] (spEscape K C CF))
    (M3 : MOk P w K mg base (L2.CX P w) C 4 "take_plain" ["self", "barred"] (spPlain K C CF)) : FnOk P w K mg base (L2.CX P w) 5 f fd ["self", "escapes"] (spOne K C CF) := by
  obtain ⟨f1, fd1, m1, b1, G1⟩ := M1
  obtain ⟨f2, fd2, m2, b2, G2⟩ := M2
  obtain ⟨f3, fd3, m3, b3, G3⟩ := M3
  refine F.okX scOne (fun vs H Q E h => ?_) (fun cdv A outer s H vs Q E hr h => ⟨_, pss_cons (ps_if (pt_val (pe_meth (pv 0) T.cl m1 G1 (hr.mono (by decide)) b1 .nil pass0 (pa_cons pe_str pa_nil)))
        (pss_one (ps_ret (pe_meth (pv 0) T.cl m2 G2 hr b2 .nil (passes_call (takes_of rfl rfl rfl rfl) (fun _ _ _ _ h => h)) (by exact (pa_cons (pv 1) pa_nil))))) pss_nil)
      (pss_one (ps_ret (pe_meth (pv 0) T.cl m3 G3 hr b3 .nil (passes_call (takes_of rfl rfl rfl rfl) (fun _ _ _ _ h => h)) (by exact (pa_cons (pe_gs hS) pa_nil))))), ?_⟩)
  · unfold spOne at h
    obtain ⟨_, _, _, _, _, _, _, _, rfl, _⟩ := h
    rfl
  · unfold spOne at h
    obtain ⟨a, dx, ag, p, an, ab, g, z, rfl, h, hQ⟩ := h
    refine ⟨_, rfl, a, dx, _, rfl, h.1, rF_no (by decide +kernel), ?_⟩
    refine at_use h (by decide +kernel) fun H1 s1 => ?_
    have h1 := h.same s1
    have hQ1 := Ret.mono hQ (Kept.of_same s1)
    refine ⟨_, rfl, ?_⟩
    by_cases c : g[p]? = some 92
    · refine if_true_of (by rw [isAt_some c, at_sign (n := 92) (by decide +kernel)]; rfl) ?_
      refine ⟨_, rfl, a, dx, _, rfl, h1.1, rF_no (by decide +kernel), _, rfl, ?_⟩
      rw [oneE_esc c] at hQ1
      exact escape_use h1 c hQ1
    · refine if_false_of ?_ ?_
      · cases e : g[p]? with
        | none => exact isAt_none e
        | some d =>
          rw [isAt_some e, at_sign (n := 92) (by decide +kernel)]
          exact decide_eq_false fun x => c (by rw [e, x])
      · refine ⟨_, rfl, a, dx, _, rfl, h1.1, rF_no (by decide +kernel), ?_⟩
        rw [oneE_plain c] at hQ1
        exact plain_use h1 (by decide +kernel) hQ1
end
end Pat
end

section
namespace Pat
open PySem PySem.Spec PyProof.Rows L2
open PySem.FaultX (FaultTxt)
open PatUtf (Fault)
open PatWords (valueP oneP partsP)
section
variable {P : Program} {w : World} {K : PySem.W.Frag} {mg : Str → Option Value} {base : Heap} {C CF fI : Addr} {H H1 H2 : Hp} {a dx ag an ab : Addr} {p q : Nat} {g : List UInt8} {z : Str} {Q : VK} {E : XK}
/-! ### take_part -/
def retN (r : Except Fault Nat) : Except Fault (V × Nat) := match r with
  | .error e => .error e
  | .ok q => .ok (.non, q)
@[irreducible] def spGo0 (K : PySem.W.Frag) (C CF : Addr) (f : List UInt8 → Nat → Except Fault Nat) : Sp := fun vs H Q E => ∃ (a dx ag : Addr) (p : Nat) (an ab : Addr) (g : List UInt8), vs = [.ref a] ∧ At K C H a dx ag p an ab g ∧ Ret C CF a dx ag an ab H Q E (retN (f g p))
theorem go0_use {f : List UInt8 → Nat → Except Fault Nat} (h : At K C H a dx ag p an ab g) (r : Ret C CF a dx ag an ab H Q E (retN (f g p))) : spGo0 K C CF f [.ref a] H Q E := by
  unfold spGo0
  exact ⟨a, dx, ag, p, an, ab, g, rfl, h, r⟩
theorem go0_len {f : List UInt8 → Nat → Except Fault Nat} {vs : List V} (h : spGo0 K C CF f vs H Q E) : vs.length = 1 := by
  unfold spGo0 at h
  obtain ⟨_, _, _, _, _, _, _, rfl, _⟩ := h
  rfl
theorem oneE_end_ne {k : Nat} : oneE zEnd g p ≠ .ok (none, k) := by
  rw [oneE_end]
  cases oneP p (g.drop p) with
  | error e => exact fun h => nomatch h
  | ok y =>
    obtain ⟨x, r, q⟩ := y
    cases x with
    | inl v => exact fun h => nomatch h
    | inr l => exact fun h => nomatch h
theorem scPart : FnScope ["self", "first_place", "first"] ["self"] (defScope (sR 7)) := ⟨rfl, rfl, rfl, by decide +kernel, rfl, by decide +kernel, by decide +kernel⟩
theorem ok_part {f : Addr} {fd : FuncData} (F : Fun K "take_part" "Reader.take_part" (sR 7) f fd) (T : Txt K mg C CF fI) (hS1 : ∃ t, mg "PART_ESCAPES" = some (.str zPart t)) (hS2 : ∃ t, mg "END_ESCAPES" = some (.str zEnd t)) (k6 : ∃ t, mg "ENDS_IN_WRONG_ORDER" = some (.int 6 t))
    (M1 : MOk P w K mg base CX0 C 2 "at" ["self", "signs"] (spAt K C)) (M2 : MOk P w K mg base (L2.CX P w) C 5 "take_one" ["self", "escapes"] (spOne K C CF))
    (M3 : MOk P w K mg base (L2.CX P w) C 3 "take" ["self", "signs"] (spTake K C CF)) : FnOk P w K mg base (L2.CX P w) 6 f fd ["self"] (spGo0 K C CF partE) := by
  obtain ⟨f1, fd1, m1, b1, G1⟩ := M1
  obtain ⟨f2, fd2, m2, b2, G2⟩ := M2
  obtain ⟨f3, fd3, m3, b3, G3⟩ := M3
  refine F.okX scPart (fun vs H Q E h => go0_len h) (fun cdv A outer s H vs Q E hr h => ⟨_, pss_cons (ps_set (i := 1) scPart.nd rfl (Or.inl rfl) (pe_fld (pv 0) rfl))
      (pss_cons (ps_set (i := 2) scPart.nd rfl (Or.inl rfl) (pe_meth (pv 0) T.cl m2 G2 hr b2 .nil (passes_call (takes_of rfl rfl rfl rfl) (fun _ _ _ _ h => h)) (by exact (pa_cons (pe_gs hS1) pa_nil))))
      (pss_one (ps_if (PW.pt (pw_and (pt_cmpR op_notN (pv 2) pe_non (nomark _)) (pw_and1 (pt_val (pe_meth (pv 0) T.cl m1 G1 (hr.mono (by decide)) b1 .nil pass0 (pa_cons pe_str pa_nil))))))
        (pss_cons (ps_expr (pe_meth (pv 0) T.cl m3 G3 (hr.mono (by decide)) b3 .nil (passes_call (takes_of rfl rfl rfl rfl) (fun _ _ _ _ h => h)) (by exact (pa_cons pe_str pa_nil))))
          (pss_one (ps_if (pt_cmpR op_gt (pv 2) (pe_meth (pv 0) T.cl m2 G2 hr b2 .nil (passes_call (takes_of rfl rfl rfl rfl) (fun _ _ _ _ h => h)) (by exact (pa_cons (pe_gs hS2) pa_nil))) (nomark _))
            (pss_one (ps_raiseFault rfl T.ft hr (takes_of rfl rfl rfl rfl) (by exact (pa_cons (pe_gi k6) (pa_cons (pv 1) pa_nil))))) pss_nil))) pss_nil))), ?_⟩)
  unfold spGo0 at h
  obtain ⟨a, dx, ag, p, an, ab, g, rfl, h, hQ⟩ := h
  refine ⟨_, rfl, a, C, dx, _, _, rfl, h.1, T.cl, T.nP, rF_place, ?_⟩
  refine ⟨_, rfl, a, dx, _, rfl, h.1, rF_no (by decide +kernel), ?_⟩
  refine one_use h ?_
  unfold partE at hQ
  cases e1 : oneE zPart g p with
  | error x => rw [e1] at hQ; exact hQ
  | ok y =>
    obtain ⟨x, q⟩ := y
    obtain ⟨hpq, hql⟩ := oneE_ok e1
    rw [e1] at hQ
    intro H1 r1 k1
    have h1 := h.next r1 k1 hql
    cases x with
    | none =>
      have hQ' : ∀ H', RAt C H' a dx ag q an ab → Kept H H' a → Q .non H' := hQ
      exact ⟨_, rfl, rfl, _, rfl, if_false_of rfl (if_false_of rfl (hQ' H1 r1 k1))⟩
    | some lo =>
      dsimp only at hQ
      refine ⟨_, rfl, rfl, _, rfl, if_true_of rfl ?_⟩
      refine ⟨_, rfl, a, dx, _, rfl, h1.1, rF_no (by decide +kernel), ?_⟩
      refine at_use h1 (by decide +kernel) fun H2 s2 => ?_
      have h2 := h1.same s2
      have k2 := k1.trans (Kept.of_same s2)
      refine ⟨_, rfl, ?_⟩
      cases ea : isAt g q "-" with
      | false =>
        rw [ea, if_neg Bool.false_ne_true] at hQ
        have hQ' : ∀ H', RAt C H' a dx ag q an ab → Kept H H' a → Q .non H' := hQ
        exact if_false_of rfl (hQ' H2 h2.1 k2)
      | true =>
        rw [ea, if_pos rfl] at hQ
        refine if_true_of rfl ?_
        obtain ⟨d, hd, hd45⟩ : ∃ d, g[q]? = some d ∧ (cds "-").contains d.toNat = true := by
          cases e : g[q]? with
          | none => rw [isAt_none e] at ea; cases ea
          | some d => rw [isAt_some e] at ea; exact ⟨d, rfl, ea⟩
        have hlt := lt_of_some hd
        refine ⟨_, rfl, a, dx, _, rfl, h2.1, rF_no (by decide +kernel), ?_⟩
        refine take_use h2 ?_
        rw [takeE_yes hd hd45]
        intro H3 r3 k3
        have h3 := h2.next r3 k3 (by omega)
        have k13 := k2.trans k3
        refine ⟨_, rfl, _, rfl, a, dx, _, rfl, h3.1, rF_no (by decide +kernel), ?_⟩
        refine one_use h3 ?_
        cases e2 : oneE zEnd g (q + 1) with
        | error x => rw [e2] at hQ; exact hQ
        | ok y2 =>
          obtain ⟨x2, k⟩ := y2
          rw [e2] at hQ
          cases x2 with
          | none => exact absurd e2 oneE_end_ne
          | some hi =>
            dsimp only at hQ
            intro H4 r4 k4
            refine ⟨_, _, rfl, rfl, _, rfl, ?_⟩
            by_cases c : hi < lo
            · rw [if_pos c] at hQ
              have hQ' : Out CF ⟨6, p⟩ E := hQ
              exact if_true_of (decide_eq_true (by omega)) ⟨_, rfl, _, _, rfl, fun d hd => hQ' d _ upd_same⟩
            · rw [if_neg c] at hQ
              have hQ' : ∀ H', RAt C H' a dx ag k an ab → Kept H H' a → Q .non H' := hQ
              exact if_false_of (decide_eq_false (by omega)) (hQ' H4 r4 (k13.trans k4))
end
end Pat
end

section
namespace Pat
open PySem PySem.Spec PyProof.Rows L2
open PySem.FaultX (FaultTxt)
open PatUtf (Fault)
open PatWords (valueP oneP partsP atomP)
def setE (g : List UInt8) (p : Nat) : Except Fault Nat := match partsP ((g.drop p).length + 1) false [] (if g[p + 1]? = some 94 then p + 2 else p + 1) (g.drop (if g[p + 1]? = some 94 then p + 2 else p + 1)) with
  | .error e => .error e
  | .ok (_, _, q) => .ok q
def singE (g : List UInt8) (p : Nat) : Except Fault Nat := match atomP 1 0 [] p (g.drop p) with
  | .error e => .error e
  | .ok (_, _, _, q) => .ok q
theorem parts_close {f : Nat} {acc : List (Nat × Nat)} {g : List UInt8} {p : Nat} (h : g[p]? = some 93) : partsP (f + 1) true acc p (g.drop p) = .ok (acc, g.drop (p + 1), p + 1) := by
  rw [drop_cons h, partsP]
  rfl
theorem parts_first {f : Nat} {g : List UInt8} {p : Nat} (h : g[p]? = some 93) : partsP (f + 1) false [] p (g.drop p) = .error ⟨2, p⟩ ∧ partE g p = .error ⟨2, p⟩ := by
  constructor
  · rw [drop_cons h, partsP]
    rfl
  · have e : oneE zPart g p = .error ⟨2, p⟩ := by
      unfold oneE
      rw [h]
      dsimp only
      rw [if_neg (by decide), if_pos (by decide +kernel)]
    unfold partE
    rw [e]
section
variable {P : Program} {w : World} {K : PySem.W.Frag} {mg : Str → Option Value} {base : Heap} {C CF fI : Addr} {H H1 H2 : Hp} {a dx ag an ab : Addr} {p q : Nat} {g : List UInt8} {z : Str} {Q : VK} {E : XK}
/-! ### take_set -/
@[irreducible] def spSet (K : PySem.W.Frag) (C CF : Addr) : Sp := fun vs H Q E => ∃ (a dx ag : Addr) (p : Nat) (an ab : Addr) (g : List UInt8), vs = [.ref a] ∧ At K C H a dx ag p an ab g ∧ g[p]? = some 91 ∧ Ret C CF a dx ag an ab H Q E (retN (setE g p))
theorem set_use (h : At K C H a dx ag p an ab g) (h91 : g[p]? = some 91) (r : Ret C CF a dx ag an ab H Q E (retN (setE g p))) : spSet K C CF [.ref a] H Q E := by
  unfold spSet
  exact ⟨a, dx, ag, p, an, ab, g, rfl, h, h91, r⟩
theorem scSet : FnScope ["self"] ["self"] (defScope (sR 8)) := ⟨rfl, rfl, rfl, by decide +kernel, rfl, by decide +kernel, by decide +kernel⟩
theorem ok_set {f : Addr} {fd : FuncData} (F : Fun K "take_set" "Reader.take_set" (sR 8) f fd) (T : Txt K mg C CF fI) (M1 : MOk P w K mg base CX0 C 2 "at" ["self", "signs"] (spAt K C))
    (M2 : MOk P w K mg base (L2.CX P w) C 6 "take_part" ["self"] (spGo0 K C CF partE)) (M3 : MOk P w K mg base (L2.CX P w) C 3 "take" ["self", "signs"] (spTake K C CF)) :
    FnOk P w K mg base (L2.CX P w) 7 f fd ["self"] (spSet K C CF) := by
  obtain ⟨f1, fd1, m1, b1, G1⟩ := M1
  obtain ⟨f2, fd2, m2, b2, G2⟩ := M2
  obtain ⟨f3, fd3, m3, b3, G3⟩ := M3
  refine F.okX scSet (fun vs H Q E h => ?_) (fun cdv A outer s H vs Q E hr h => ⟨_, pss_cons (ps_expr (pe_meth (pv 0) T.cl m3 G3 (hr.mono (by decide)) b3 .nil (passes_call (takes_of rfl rfl rfl rfl) (fun _ _ _ _ h => h)) (by exact (pa_cons pe_str pa_nil))))
      (pss_cons (ps_if (pt_val (pe_meth (pv 0) T.cl m1 G1 (hr.mono (by decide)) b1 .nil pass0 (pa_cons pe_str pa_nil)))
        (pss_one (ps_expr (pe_meth (pv 0) T.cl m3 G3 (hr.mono (by decide)) b3 .nil (passes_call (takes_of rfl rfl rfl rfl) (fun _ _ _ _ h => h)) (by exact (pa_cons pe_str pa_nil))))) pss_nil)
      (pss_cons (ps_expr (pe_meth0 (pv 0) T.cl m2 G2 hr b2 .nil (passes_call (takes_of rfl rfl rfl rfl) (fun _ _ _ _ h => h))))
      (pss_cons (ps_while (passes_of rfl) (pt_not (pt_val (pe_meth (pv 0) T.cl m1 G1 (hr.mono (by decide)) b1 .nil pass0 (pa_cons pe_str pa_nil)))) (pss_one (ps_expr (pe_meth0 (pv 0) T.cl m2 G2 hr b2 .nil (passes_call (takes_of rfl rfl rfl rfl) (fun _ _ _ _ h => h))))))
      (pss_one (ps_expr (pe_meth (pv 0) T.cl m3 G3 (hr.mono (by decide)) b3 .nil (passes_call (takes_of rfl rfl rfl rfl) (fun _ _ _ _ h => h)) (by exact (pa_cons pe_str pa_nil)))))))), ?_⟩)
  · unfold spSet at h
    obtain ⟨_, _, _, _, _, _, _, rfl, _⟩ := h
    rfl
  unfold spSet at h
  obtain ⟨a, dx, ag, p, an, ab, g, rfl, h, h91, hQ⟩ := h
  have hlt := lt_of_some h91
  refine ⟨_, rfl, a, dx, _, rfl, h.1, rF_no (by decide +kernel), ?_⟩
  refine take_use h ?_
  rw [takeE_yes h91 (by decide +kernel)]
  intro H1 r1 k1
  have h1 := h.next r1 k1 (by omega)
  -- the rest from the first part on
  have rest : ∀ (p0 : Nat) (H0 : Hp), At K C H0 a dx ag p0 an ab g → Kept H H0 a → p < p0 → Ret C CF a dx ag an ab H Q E (retN (match partsP ((g.drop p).length + 1) false [] p0 (g.drop p0) with
      | .error e => .error e
      | .ok (_, _, q) => .ok q)) →
      (tSeq (tDrop (tMeth C "take_part" (spGo0 K C CF partE) [] E (tVar 0) tNil)) (tSeq (tWhile (tNot (tB (tMeth C "at" (spAt K C) [] E0 (tVar 0) (tCons (tC (.str "]")) tNil)))) (tDrop (tMeth C "take_part" (spGo0 K C CF partE) [] E (tVar 0) tNil)))
        (tDrop (tMeth C "take" (spTake K C CF) [] E (tVar 0) (tCons (tC (.str "]")) tNil))))) { nx := fun _ H' => Q .non H', rt := Q } [some (.ref a)] H0 := by
    intro p0 H0 h0 k0 hp0 hR
    obtain ⟨F0, hF0⟩ : ∃ F0, (g.drop p).length = F0 := ⟨_, rfl⟩
    rw [hF0] at hR
    have hF1 : F0 = g.length - p := by rw [← hF0, List.length_drop]
    refine ⟨_, rfl, a, dx, _, rfl, h0.1, rF_no (by decide +kernel), ?_⟩
    refine go0_use h0 ?_
    -- what one part says of the parts to come
    have part1 : ∀ {s : Bool} {acc : List (Nat × Nat)} {f' q0 : Nat} {H3 : Hp} {N : Hp → Prop}, (s = true → g[q0]? ≠ some 93) → Kept H H3 a → (g.drop q0).length < f' + 1 →
        Ret C CF a dx ag an ab H Q E (retN (match partsP (f' + 1) s acc q0 (g.drop q0) with
          | .error e => .error e
          | .ok (_, _, q) => .ok q)) → (s = false → acc = []) →
        (∀ q1 acc1 H4, q0 < q1 → q1 ≤ g.length → RAt C H4 a dx ag q1 an ab → Kept H3 H4 a → (g.drop q1).length < f' → Ret C CF a dx ag an ab H Q E (retN (match partsP f' true acc1 q1 (g.drop q1) with
          | .error e => .error e
          | .ok (_, _, q) => .ok q)) → N H4) → Ret C CF a dx ag an ab H3 (fun _ H4 => N H4) E (retN (partE g q0)) := by
      intro s acc f' q0 H3 N hs k3 hf hR3 hs2 hN
      by_cases c93 : g[q0]? = some 93
      · cases s with
        | true => exact absurd c93 (hs rfl)
        | false =>
          obtain ⟨e1, e2⟩ := parts_first (f := f') c93
          rw [hs2 rfl, e1] at hR3
          rw [e2]
          exact hR3
      · have pp := parts_part (f := f') (s := s) (acc := acc) (g := g) (p := q0) (fun c hc e => c93 (by rw [hc, e]))
        cases ep : partE g q0 with
        | error e =>
          rw [ep] at pp
          dsimp only at pp
          rw [pp] at hR3
          exact hR3
        | ok q1 =>
          rw [ep] at pp
          obtain ⟨acc1, pp⟩ := pp
          obtain ⟨l1, l2⟩ := partE_ok ep
          rw [pp] at hR3
          intro H4 r4 k4
          refine hN q1 acc1 H4 l1 l2 r4 k4 ?_ hR3
          rw [List.length_drop] at hf ⊢
          omega
    refine part1 (f' := F0) (s := false) (acc := []) (fun e => nomatch e) k0 (by rw [List.length_drop]; omega) hR (fun _ => rfl) ?_
    intro q1 acc1 H4 l1 l2 r4 k4 hf4 hR4
    have h4 := h0.next r4 k4 l2
    refine ⟨fun m σ H' => ∃ (q : Nat) (f' : Nat) (acc : List (Nat × Nat)), m = g.length - q ∧ σ = [some (.ref a)] ∧ At K C H' a dx ag q an ab g ∧ Kept H H' a ∧ (g.drop q).length < f' ∧ Ret C CF a dx ag an ab H Q E (retN (match partsP f' true acc q (g.drop q) with
          | .error e => .error e
          | .ok (_, _, q) => .ok q)), ⟨_, q1, F0, acc1, rfl, rfl, h4, k0.trans k4, hf4, hR4⟩, ?_⟩
    rintro m σ H5 ⟨q, f', acc, rfl, rfl, h5, k5, hf5, hR5⟩
    obtain ⟨f'', rfl⟩ : ∃ f'', f' = f'' + 1 := ⟨f' - 1, by omega⟩
    refine ⟨_, rfl, a, dx, _, rfl, h5.1, rF_no (by decide +kernel), ?_⟩
    refine at_use h5 (by decide +kernel) fun H6 s6 => ?_
    have h6 := h5.same s6
    have k6 := k5.trans (Kept.of_same s6)
    refine ⟨_, rfl, ?_⟩
    by_cases c93 : g[q]? = some 93
    · refine if_false_of (by rw [isAt_some c93]; decide +kernel) ?_
      refine ⟨_, rfl, a, dx, _, rfl, h6.1, rF_no (by decide +kernel), ?_⟩
      refine take_use h6 ?_
      rw [takeE_yes c93 (by decide +kernel)]
      rw [parts_close c93] at hR5
      have hR5' : ∀ H', RAt C H' a dx ag (q + 1) an ab → Kept H H' a → Q .non H' := hR5
      intro H7 r7 k7
      exact hR5' H7 r7 (k6.trans k7)
    · have e93 : isAt g q "]" = false := by
        cases e : g[q]? with
        | none => exact isAt_none e
        | some d =>
          rw [isAt_some e, at_sign (n := 93) (by decide +kernel)]
          exact decide_eq_false fun x => c93 (by rw [e, x])
      rw [e93]
      refine if_true_of rfl ⟨fun σ' H' => ∃ q', q < q' ∧ q' ≤ g.length ∧ ∃ (f' : Nat) (acc : List (Nat × Nat)), σ' = [some (.ref a)] ∧ At K C H' a dx ag q' an ab g ∧ Kept H H' a ∧ (g.drop q').length < f' ∧ Ret C CF a dx ag an ab H Q E (retN (match partsP f' true acc q' (g.drop q') with
          | .error e => .error e
          | .ok (_, _, q) => .ok q)), ?_, ?_⟩
      · rintro σ' H' ⟨q', l1, l2, f3, acc3, rfl, h7, k7, hf7, hR7⟩
        exact ⟨g.length - q', by omega, q', f3, acc3, rfl, rfl, h7, k7, hf7, hR7⟩
      · refine ⟨_, rfl, a, dx, _, rfl, h6.1, rF_no (by decide +kernel), ?_⟩
        refine go0_use h6 ?_
        refine part1 (f' := f'') (s := true) (acc := acc) (fun _ => c93) k6 hf5 hR5 (fun e => nomatch e) ?_
        intro q2 acc2 H8 l3 l4 r8 k8 hf8 hR8
        exact ⟨q2, l3, l4, f'', acc2, rfl, h6.next r8 k8 l4, k6.trans k8, hf8, hR8⟩
  -- [^ or [
  refine ⟨_, rfl, a, dx, _, rfl, h1.1, rF_no (by decide +kernel), ?_⟩
  refine at_use h1 (by decide +kernel) fun H2 s2 => ?_
  have h2 := h1.same s2
  have k2 := k1.trans (Kept.of_same s2)
  refine ⟨_, rfl, ?_⟩
  unfold setE at hQ
  by_cases c94 : g[p + 1]? = some 94
  · rw [if_pos c94] at hQ
    have hlt2 := lt_of_some c94
    refine if_true_of (by rw [isAt_some c94]; decide +kernel) ?_
    refine ⟨_, rfl, a, dx, _, rfl, h2.1, rF_no (by decide +kernel), ?_⟩
    refine take_use h2 ?_
    rw [takeE_yes c94 (by decide +kernel)]
    intro H3 r3 k3
    exact rest (p + 2) H3 (h2.next r3 k3 (by omega)) (k2.trans k3) (by omega) hQ
  · rw [if_neg c94] at hQ
    have e94 : isAt g (p + 1) "^" = false := by
      cases e : g[p + 1]? with
      | none => exact isAt_none e
      | some d =>
        rw [isAt_some e, at_sign (n := 94) (by decide +kernel)]
        exact decide_eq_false fun x => c94 (by rw [e, x])
    rw [e94]
    refine if_false_of rfl ?_
    exact rest (p + 1) H2 h2 k2 (by omega) hQ
end
end Pat
end

section
namespace Pat
open PySem PySem.Spec PyProof.Rows L2
open PySem.FaultX (FaultTxt)
open PatUtf (Fault)
open PatWords (valueP oneP partsP atomP timesP repP)
theorem sing_set {g : List UInt8} {p : Nat} (h : g[p]? = some 91) : singE g p = setE g p := by
  unfold singE setE
  rw [drop_cons h, atomP.eq_def 1]
  cases hd : g[p + 1]? with
  | none =>
    rw [if_neg (fun x => nomatch x), drop_none hd]
    rfl
  | some d =>
    rw [drop_cons hd]
    by_cases c : d = 94
    · subst c
      rw [if_pos rfl]
      simp only [(by decide : ¬ (91 : UInt8) = 46), (by decide : ¬ (91 : UInt8) = 94), (by decide : ¬ (91 : UInt8) = 36), (by decide : ¬ (91 : UInt8) = 92), if_false, if_true]
      cases partsP ((91 :: 94 :: g.drop (p + 1 + 1)).length + 1) false [] (p + 2) (g.drop (p + 1 + 1)) with
      | error e => rfl
      | ok y => rfl
    · rw [if_neg (fun x => c (Option.some.inj x))]
      simp only [(by decide : ¬ (91 : UInt8) = 46), (by decide : ¬ (91 : UInt8) = 94), (by decide : ¬ (91 : UInt8) = 36), (by decide : ¬ (91 : UInt8) = 92), if_false, if_true, c]
      rw [← drop_cons hd]
      cases partsP ((91 :: g.drop (p + 1)).length + 1) false [] (p + 1) (g.drop (p + 1)) with
      | error e => rfl
      | ok y => rfl
theorem sing_esc {g : List UInt8} {p : Nat} (h : g[p]? = some 92) : singE g p = match escE zAtom g p with
    | .error e => .error e
    | .ok (_, q) => .ok q := by
  unfold singE escE
  rw [drop_cons h, atomP.eq_def 1]
  simp only [(by decide : ¬ (92 : UInt8) = 46), (by decide : ¬ (92 : UInt8) = 94), (by decide : ¬ (92 : UInt8) = 36), if_false, if_true]
  cases hd : g[p + 1]? with
  | none =>
    rw [drop_none hd]
  | some d =>
    rw [drop_cons hd]
    dsimp only
    have hb := escB_all d
    unfold escB at hb
    cases e1 : PatWords.classOf d with
    | some l =>
      rw [e1] at hb
      simp only [Bool.and_eq_true, Bool.not_eq_true', beq_iff_eq, bne_iff_ne] at hb
      rw [if_pos hb.2.2.1, if_neg hb.2.2.2.2]
    | none =>
      rw [e1] at hb
      cases e2 : PatWords.escapedOf d with
      | some x =>
        rw [e2] at hb
        simp only [Bool.and_eq_true, Bool.not_eq_true', beq_iff_eq, bne_iff_ne] at hb
        rw [if_pos hb.2.2.1, if_neg hb.2.2.2.2]
      | none =>
        rw [e2] at hb
        simp only [Bool.and_eq_true, Bool.not_eq_true', beq_iff_eq] at hb
        rw [hb.2.2]
        by_cases c : d = 98
        · rw [if_pos c, if_pos (beq_iff_eq.mpr c)]
        · rw [if_neg c, if_neg (by simpa using c)]
theorem sing_dot {g : List UInt8} {p : Nat} {c : UInt8} (h : g[p]? = some c) (hc : c = 46 ∨ c = 94 ∨ c = 36) : singE g p = .ok (p + 1) := by
  unfold singE
  rw [drop_cons h, atomP.eq_def 1]
  rcases hc with e | e | e <;> subst e <;> rfl
theorem sing_plain {g : List UInt8} {p : Nat} {c : UInt8} (h : g[p]? = some c) (h1 : c ≠ 40) (h2 : c ≠ 60) (h3 : c ≠ 91) (h4 : c ≠ 92) (h5 : ¬ (c = 46 ∨ c = 94 ∨ c = 36)) :
    singE g p = match plainE zSigns g p with
      | .error e => .error e
      | .ok (_, q) => .ok q := by
  have h6 : c ≠ 46 := fun x => h5 (.inl x)
  have h7 : c ≠ 94 := fun x => h5 (.inr (.inl x))
  have h8 : c ≠ 36 := fun x => h5 (.inr (.inr x))
  unfold singE plainE
  rw [drop_cons h, atomP.eq_def 1, h]
  simp only [h1, h2, h3, h4, h6, h7, h8, if_false]
  rw [out_signs]
  by_cases hs : PatWords.signs.contains c = true
  · rw [if_pos hs, if_pos hs]
  · rw [if_neg hs, if_neg hs]
    cases valueP p (c :: g.drop (p + 1)) with
    | error e => rfl
    | ok y => rfl
theorem at_dots (c : UInt8) : (cds ".^$").contains c.toNat = (decide (c = 46) || (decide (c = 94) || decide (c = 36))) :=
  beq_iff_eq.mp (u8_all (p := fun c => (cds ".^$").contains c.toNat == (decide (c = 46) || (decide (c = 94) || decide (c = 36)))) (by decide +kernel) c)
section
variable {P : Program} {w : World} {K : PySem.W.Frag} {mg : Str → Option Value} {base : Heap} {C CF fI : Addr} {H H1 H2 : Hp} {a dx ag an ab : Addr} {p q : Nat} {g : List UInt8} {z : Str} {Q : VK} {E : XK}
/-! ### take_single_atom -/
@[irreducible] def spSingle (K : PySem.W.Frag) (C CF : Addr) : Sp := fun vs H Q E => ∃ (a dx ag : Addr) (p : Nat) (an ab : Addr) (g : List UInt8) (c : UInt8), vs = [.ref a] ∧ At K C H a dx ag p an ab g ∧ g[p]? = some c ∧ c ≠ 40 ∧ c ≠ 60 ∧ Ret C CF a dx ag an ab H Q E (retN (singE g p))
theorem single_use {c : UInt8} (h : At K C H a dx ag p an ab g) (hc : g[p]? = some c) (h1 : c ≠ 40) (h2 : c ≠ 60) (r : Ret C CF a dx ag an ab H Q E (retN (singE g p))) : spSingle K C CF [.ref a] H Q E := by
  unfold spSingle
  exact ⟨a, dx, ag, p, an, ab, g, c, rfl, h, hc, h1, h2, r⟩
theorem Ret.void {res : Except Fault (V × Nat)} {N : Hp → Prop} (r : Ret C CF a dx ag an ab H (fun _ H' => N H') E (retN (match res with
    | .error e => .error e
    | .ok (_, q) => .ok q))) : Ret C CF a dx ag an ab H (fun _ H' => N H') E res := by
  cases res with
  | error e => exact r
  | ok y => exact r
theorem Ret.non {r : Except Fault Nat} (h : Ret C CF a dx ag an ab H Q E (retN r)) : Ret C CF a dx ag an ab H (fun _ H' => Q .non H') E (retN r) := by
  cases r with
  | error e => exact h
  | ok y => exact h
theorem scSingle : FnScope ["self"] ["self"] (defScope (sR 9)) := ⟨rfl, rfl, rfl, by decide +kernel, rfl, by decide +kernel, by decide +kernel⟩
theorem ok_single {f : Addr} {fd : FuncData} (F : Fun K "take_single_atom" "Reader.take_single_atom" (sR 9) f fd) (T : Txt K mg C CF fI) (hS1 : ∃ t, mg "ATOM_ESCAPES" = some (.str zAtom t)) (hS2 : ∃ t, mg "SIGNS" = some (.str zSigns t))
    (M1 : MOk P w K mg base CX0 C 2 "at" ["self", "signs"] (spAt K C)) (M2 : MOk P w K mg base (L2.CX P w) C 7 "take_set" ["self"] (spSet K C CF))
    (M3 : MOk P w K mg base (L2.CX P w) C 4 "take_escape" ["self", "escapes"] (spEscape K C CF)) (M4 : MOk P w K mg base (L2.CX P w) C 3 "take" ["self", "signs"] (spTake K C CF))
    (M5 : MOk P w K mg base (L2.CX P w) C 4 "take_plain" ["self", "barred"] (spPlain K C CF)) : FnOk P w K mg base (L2.CX P w) 8 f fd ["self"] (spSingle K C CF) := by
  obtain ⟨f1, fd1, m1, b1, G1⟩ := M1
  obtain ⟨f2, fd2, m2, b2, G2⟩ := M2
  obtain ⟨f3, fd3, m3, b3, G3⟩ := M3
  obtain ⟨f4, fd4, m4, b4, G4⟩ := M4
  obtain ⟨f5, fd5, m5, b5, G5⟩ := M5
  refine F.okX scSingle (fun vs H Q E h => ?_) (fun cdv A outer s H vs Q E hr h => ⟨_, pss_one (ps_if (pt_val (pe_meth (pv 0) T.cl m1 G1 (hr.mono (by decide)) b1 .nil pass0 (pa_cons pe_str pa_nil)))
      (pss_one (ps_expr (pe_meth0 (pv 0) T.cl m2 G2 hr b2 .nil (passes_call (takes_of rfl rfl rfl rfl) (fun _ _ _ _ h => h)))))
      (pss_one (ps_if (pt_val (pe_meth (pv 0) T.cl m1 G1 (hr.mono (by decide)) b1 .nil pass0 (pa_cons pe_str pa_nil)))
        (pss_one (ps_expr (pe_meth (pv 0) T.cl m3 G3 (hr.mono (by decide)) b3 .nil (passes_call (takes_of rfl rfl rfl rfl) (fun _ _ _ _ h => h)) (by exact (pa_cons (pe_gs hS1) pa_nil)))))
        (pss_one (ps_if (pt_val (pe_meth (pv 0) T.cl m1 G1 (hr.mono (by decide)) b1 .nil pass0 (pa_cons pe_str pa_nil)))
          (pss_one (ps_expr (pe_meth (pv 0) T.cl m4 G4 (hr.mono (by decide)) b4 .nil (passes_call (takes_of rfl rfl rfl rfl) (fun _ _ _ _ h => h)) (by exact (pa_cons pe_str pa_nil)))))
          (pss_one (ps_expr (pe_meth (pv 0) T.cl m5 G5 (hr.mono (by decide)) b5 .nil (passes_call (takes_of rfl rfl rfl rfl) (fun _ _ _ _ h => h)) (by exact (pa_cons (pe_gs hS2) pa_nil)))))))))), ?_⟩)
  · unfold spSingle at h
    obtain ⟨_, _, _, _, _, _, _, _, rfl, _⟩ := h
    rfl
  unfold spSingle at h
  obtain ⟨a, dx, ag, p, an, ab, g, c, rfl, h, hc, hc1, hc2, hQ⟩ := h
  have hlt := lt_of_some hc
  refine ⟨_, rfl, a, dx, _, rfl, h.1, rF_no (by decide +kernel), ?_⟩
  refine at_use h (by decide +kernel) fun H1 s1 => ?_
  have h1 := h.same s1
  have hQ := Ret.mono hQ (Kept.of_same s1)
  refine ⟨_, rfl, ?_⟩
  rw [isAt_some hc, at_sign (n := 91) (by decide +kernel)]
  by_cases c91 : c = 91
  · subst c91
    refine if_true_of rfl ?_
    refine ⟨_, rfl, a, dx, _, rfl, h1.1, rF_no (by decide +kernel), ?_⟩
    rw [sing_set hc] at hQ
    exact set_use h1 hc (Ret.non hQ)
  refine if_false_of (decide_eq_false c91) ?_
  refine ⟨_, rfl, a, dx, _, rfl, h1.1, rF_no (by decide +kernel), ?_⟩
  refine at_use h1 (by decide +kernel) fun H2 s2 => ?_
  have h2 := h1.same s2
  have hQ := Ret.mono hQ (Kept.of_same s2)
  refine ⟨_, rfl, ?_⟩
  rw [isAt_some hc, at_sign (n := 92) (by decide +kernel)]
  by_cases c92 : c = 92
  · subst c92
    refine if_true_of rfl ?_
    refine ⟨_, rfl, a, dx, _, rfl, h2.1, rF_no (by decide +kernel), ?_⟩
    rw [sing_esc hc] at hQ
    refine escape_use h2 hc ?_
    unfold escE at hQ ⊢
    cases hd : g[p + 1]? with
    | none => rw [hd] at hQ; exact hQ
    | some d =>
      rw [hd] at hQ
      dsimp only at hQ ⊢
      by_cases cd : (cds zAtom).contains d.toNat = true
      · rw [if_pos cd] at hQ ⊢
        exact hQ
      · rw [if_neg cd] at hQ ⊢
        exact hQ
  refine if_false_of (decide_eq_false c92) ?_
  refine ⟨_, rfl, a, dx, _, rfl, h2.1, rF_no (by decide +kernel), ?_⟩
  refine at_use h2 (by decide +kernel) fun H3 s3 => ?_
  have h3 := h2.same s3
  have hQ := Ret.mono hQ (Kept.of_same s3)
  refine ⟨_, rfl, ?_⟩
  rw [isAt_some hc, at_dots]
  by_cases cd : c = 46 ∨ c = 94 ∨ c = 36
  · have e : (decide (c = 46) || (decide (c = 94) || decide (c = 36))) = true := by simpa using cd
    rw [e]
    refine if_true_of rfl ?_
    refine ⟨_, rfl, a, dx, _, rfl, h3.1, rF_no (by decide +kernel), ?_⟩
    rw [sing_dot hc cd] at hQ
    refine take_use h3 ?_
    rw [takeE_yes hc (by rw [at_dots]; exact e)]
    exact hQ
  · have e : (decide (c = 46) || (decide (c = 94) || decide (c = 36))) = false := by simpa using cd
    rw [e]
    refine if_false_of rfl ?_
    refine ⟨_, rfl, a, dx, _, rfl, h3.1, rF_no (by decide +kernel), ?_⟩
    rw [sing_plain hc hc1 hc2 c91 c92 cd] at hQ
    refine plain_use h3 (by decide +kernel) ?_
    exact Ret.void (N := fun H' => Q .non H') (Ret.non hQ)
end
end Pat
end

section
namespace Pat
open PySem PySem.Spec PyProof.Rows L2
open PySem.FaultX (FaultTxt)
open PatUtf (Fault)
open PatWords (valueP oneP partsP atomP timesP repP)
abbrev zFig : Str := "0123456789"
theorem at_fig (c : UInt8) : (cds zFig).contains c.toNat = PatUtf.isDigit c :=
  beq_iff_eq.mp (u8_all (p := fun c => (cds zFig).contains c.toNat == PatUtf.isDigit c) (by decide +kernel) c)
theorem fig_int : ∀ n < 10, PySem.intText? (sg (48 + n)) = some (n : Int) := by decide +kernel
theorem fig_int' {c : UInt8} (h : PatUtf.isDigit c = true) : PySem.intText? (sg c.toNat) = some ((c.toNat - 48 : Nat) : Int) := by
  unfold PatUtf.isDigit at h
  simp only [Bool.and_eq_true, decide_eq_true_eq] at h
  have e : c.toNat = 48 + (c.toNat - 48) := by omega
  have := fig_int (c.toNat - 48) (by omega)
  rw [← e] at this
  exact this
/-- figures read on from a number -/
def dig (m : Nat) (x : UInt8) : Nat := 10 * m + (x.toNat - 48)
def numE (least : Nat) (g : List UInt8) (p : Nat) : Except Fault (V × Nat) := match timesP p (g.drop p) with
  | .error e => .error e
  | .ok (n, _, q) => if n < least then .error ⟨3, p⟩ else .ok (.int (n : Nat), q)
theorem dig_pos {m : Nat} (h : 0 < m) (x : UInt8) : 0 < dig m x := by
  unfold dig
  omega
/-- what is told of a number whose first figure is no nought, from any place within it on -/
theorem num_rest {least : Nat} {g : List UInt8} {p : Nat} {c : UInt8} (hc : g[p]? = some c) (hd : PatUtf.isDigit c = true) (h48 : c ≠ 48) {q n : Nat} (hq : p < q) (hql : q ≤ g.length)
    (hn : ((c :: g.drop (p + 1)).takeWhile PatUtf.isDigit).foldl dig 0 = ((g.drop q).takeWhile PatUtf.isDigit).foldl dig n) (hlen : ((c :: g.drop (p + 1)).takeWhile PatUtf.isDigit).length = q - p + ((g.drop q).takeWhile PatUtf.isDigit).length)
    (hend : ∀ x, g[q]? = some x → PatUtf.isDigit x = false) :
    numE least g p = if q = g.length then .error ⟨1, q⟩ else if n < least ∨ 20 < n then .error ⟨3, p⟩ else .ok (.int (n : Nat), q) := by
  have hlt := lt_of_some hc
  have et : (g.drop q).takeWhile PatUtf.isDigit = [] := by
    cases e : g[q]? with
    | none => rw [drop_none e]; rfl
    | some x => rw [drop_cons e, List.takeWhile_cons, hend x e]; rfl
  rw [et] at hn hlen
  rw [List.foldl_nil] at hn
  have hlen : ((c :: g.drop (p + 1)).takeWhile PatUtf.isDigit).length = q - p := by
    rw [hlen]
    rfl
  have hbl : (c :: g.drop (p + 1)).length = g.length - p := by rw [← drop_cons hc, List.length_drop]
  unfold numE timesP
  rw [drop_cons hc]
  dsimp only
  rw [if_neg (by rw [hd]; decide), if_neg h48]
  have hf : (fun (m : Nat) (x : UInt8) => 10 * m + (x.toNat - 48)) = dig := rfl
  rw [hf, hn, hlen, hbl]
  by_cases c1 : q = g.length
  · rw [if_pos c1, if_pos (by omega)]
    have : p + (g.length - p) = q := by omega
    rw [this]
  · rw [if_neg c1, if_neg (by omega)]
    unfold PatWords.TIMES
    by_cases c2 : 20 < n
    · rw [if_pos c2, if_pos (Or.inr c2)]
    · rw [if_neg c2]
      have : p + (q - p) = q := by omega
      dsimp only
      by_cases c3 : n < least
      · rw [if_pos c3, if_pos (Or.inl c3)]
      · rw [if_neg c3, if_neg (by omega), this]
section
variable {P : Program} {w : World} {K : PySem.W.Frag} {mg : Str → Option Value} {base : Heap} {C CF fI : Addr} {H H1 H2 : Hp} {a dx ag an ab : Addr} {p q : Nat} {g : List UInt8} {z : Str} {Q : VK} {E : XK}
/-! ### take_number -/
@[irreducible] def spNum (K : PySem.W.Frag) (C CF : Addr) : Sp := fun vs H Q E => ∃ (a dx ag : Addr) (p : Nat) (an ab : Addr) (g : List UInt8) (least : Nat), vs = [.ref a, .int least] ∧ At K C H a dx ag p an ab g ∧ Ret C CF a dx ag an ab H Q E (numE least g p)
theorem num_use {least : Nat} (h : At K C H a dx ag p an ab g) (r : Ret C CF a dx ag an ab H Q E (numE least g p)) : spNum K C CF [.ref a, .int (least : Nat)] H Q E := by
  unfold spNum
  exact ⟨a, dx, ag, p, an, ab, g, least, rfl, h, r⟩
theorem scNum : FnScope ["self", "least", "first_place", "number"] ["self", "least"] (defScope (sR 10)) := ⟨rfl, rfl, rfl, by decide +kernel, rfl, by decide +kernel, by decide +kernel⟩
theorem ok_num {f : Addr} {fd : FuncData} (F : Fun K "take_number" "Reader.take_number" (sR 10) f fd) (T : Txt K mg C CF fI) (hS1 : ∃ t, mg "FIGURES" = some (.str zFig t)) (k20 : ∃ t, mg "MOST_TIMES" = some (.int 20 t)) (k3 : ∃ t, mg "NUMBER_OUT_OF_RANGE" = some (.int 3 t)) (hint : mg "int" = none)
    (M1 : MOk P w K mg base CX0 C 2 "at" ["self", "signs"] (spAt K C)) (M2 : MOk P w K mg base (L2.CX P w) C 3 "take" ["self", "signs"] (spTake K C CF))
    (M3 : MOk P w K mg base (L2.CX P w) C 2 "need_byte" ["self"] (spNeed K C CF)) : FnOk P w K mg base (L2.CX P w) 4 f fd ["self", "least"] (spNum K C CF) := by
  obtain ⟨f1, fd1, m1, b1, G1⟩ := M1
  obtain ⟨f2, fd2, m2, b2, G2⟩ := M2
  obtain ⟨f3, fd3, m3, b3, G3⟩ := M3
  refine F.okX scNum (fun vs H Q E h => ?_) (fun cdv A outer s H vs Q E hr h => ⟨_, pss_cons (ps_set (i := 2) scNum.nd rfl (Or.inl rfl) (pe_fld (pv 0) rfl))
      (pss_cons (ps_set (i := 3) scNum.nd rfl (Or.inl rfl) (pe_callTy call_int_str (by rfl) hint (by decide +kernel) (by exact (pa_cons (pe_meth (pv 0) T.cl m2 G2 hr b2 .nil (passes_call (takes_of rfl rfl rfl rfl) (fun _ _ _ _ h => h)) (by exact (pa_cons (pe_gs hS1) pa_nil))) pa_nil))))
      (pss_cons (ps_while (passes_of rfl) (PW.pt (pw_and (pt_cmpR op_gt (pv 3) pe_int (nomark _)) (pw_and1 (pt_val (pe_meth (pv 0) T.cl m1 G1 (hr.mono (by decide)) b1 .nil pass0 (pa_cons (pe_gs hS1) pa_nil))))))
        (pss_one (ps_set (i := 3) scNum.nd rfl (Or.inl rfl) (pe_op op_add (pe_op op_mul (pv 3) pe_int) (pe_callTy call_int_str (by rfl) hint (by decide +kernel) (by exact (pa_cons (pe_meth (pv 0) T.cl m2 G2 hr b2 .nil (passes_call (takes_of rfl rfl rfl rfl) (fun _ _ _ _ h => h)) (by exact (pa_cons (pe_gs hS1) pa_nil))) pa_nil)))))))
      (pss_cons (ps_expr (pe_meth0 (pv 0) T.cl m3 G3 (hr.mono (by decide)) b3 .nil (passes_call (takes_of rfl rfl rfl rfl) (fun _ _ _ _ h => h))))
      (pss_cons (ps_if (PW.pt (pw_or (pt_cmpR op_lt (pv 3) (pv 1) (nomark _)) (pw_or1 (pt_cmpR op_gt (pv 3) (pe_gi k20) (nomark _)))))
        (pss_one (ps_raiseFault rfl T.ft hr (takes_of rfl rfl rfl rfl) (by exact (pa_cons (pe_gi k3) (pa_cons (pv 2) pa_nil))))) pss_nil)
      (pss_one (ps_ret (pv 3))))))), ?_⟩)
  · unfold spNum at h
    obtain ⟨_, _, _, _, _, _, _, _, rfl, _⟩ := h
    rfl
  unfold spNum at h
  obtain ⟨a, dx, ag, p, an, ab, g, least, rfl, h, hQ⟩ := h
  refine ⟨_, rfl, a, C, dx, _, _, rfl, h.1, T.cl, T.nP, rF_place, ?_⟩
  refine ⟨_, rfl, a, dx, _, rfl, h.1, rF_no (by decide +kernel), ?_⟩
  refine take_use h ?_
  cases hc : g[p]? with
  | none =>
    rw [takeE_end hc]
    have e : numE least g p = .error ⟨1, p⟩ := by unfold numE; rw [drop_none hc]; rfl
    rw [e] at hQ
    exact hQ
  | some c =>
    have hlt := lt_of_some hc
    cases hd : PatUtf.isDigit c with
    | false =>
      rw [takeE_no hc (by rw [at_fig]; exact hd)]
      have e : numE least g p = .error ⟨2, p⟩ := by
        unfold numE timesP
        rw [drop_cons hc]
        dsimp only
        rw [if_pos hd]
      rw [e] at hQ
      exact hQ
    | true =>
      rw [takeE_yes hc (by rw [at_fig]; exact hd)]
      intro H1 r1 k1
      have h1 := h.next r1 k1 (by omega)
      refine ⟨_, _, rfl, fig_int' hd, (by show 1 ≤ 640; decide), ?_⟩
      -- behind the loop
      have tail : ∀ (q n : Nat) (H5 : Hp), p < q → At K C H5 a dx ag q an ab g → Kept H H5 a → (numE least g p = if q = g.length then .error ⟨1, q⟩ else if n < least ∨ 20 < n then .error ⟨3, p⟩ else .ok (.int (n : Nat), q)) →
          (tSeq (tDrop (tMeth C "need_byte" (spNeed K C CF) [] E (tVar 0) tNil)) (tSeq (tIfS (tOr (tTest (tOp rLt (tVar 3) (tVar 1))) (tTest (tOp (rI0 fun i j => .bl (decide (j < i))) (tVar 3) (tC (.int 20)))))
            (tRaiseFault CF (fun cls d _ H => E cls d H) (tCons (tC (.int 3)) (tCons (tVar 2) tNil))) tNext) (tRet (tVar 3)))) { nx := fun _ H' => Q .non H', rt := Q } [some (.ref a), some (.int (least : Nat)), some (.int (p : Nat)), some (.int (n : Nat))] H5 := by
        intro q n H5 hpq h5 k5 e
        rw [e] at hQ
        refine ⟨_, rfl, a, dx, _, rfl, h5.1, rF_no (by decide +kernel), ?_⟩
        refine need_use h5 (fun c1 => ?_) (fun c1 => ?_)
        · rw [if_pos c1] at hQ
          exact hQ
        · rw [if_neg (by omega)] at hQ
          refine ⟨_, rfl, _, rfl, _, _, rfl, rfl, _, rfl, ?_⟩
          by_cases c2 : n < least
          · rw [if_pos (.inl c2)] at hQ
            have hQ' : Out CF ⟨3, p⟩ E := hQ
            exact if_true_of (decide_eq_true (by omega)) (if_true_of rfl ⟨_, rfl, _, _, rfl, fun d hd => hQ' d _ upd_same⟩)
          · refine if_false_of (decide_eq_false (by omega)) ⟨_, rfl, _, _, rfl, rfl, _, rfl, ?_⟩
            by_cases c3 : 20 < n
            · rw [if_pos (.inr c3)] at hQ
              have hQ' : Out CF ⟨3, p⟩ E := hQ
              exact if_true_of (decide_eq_true (by omega)) ⟨_, rfl, _, _, rfl, fun d hd => hQ' d _ upd_same⟩
            · rw [if_neg (by omega)] at hQ
              have hQ' : ∀ H', RAt C H' a dx ag q an ab → Kept H H' a → Q (.int (n : Nat)) H' := hQ
              exact if_false_of (decide_eq_false (by omega)) ⟨_, rfl, hQ' H5 h5.1 k5⟩
      have hpos48 : c ≠ 48 → 0 < c.toNat - 48 := fun h => by
        unfold PatUtf.isDigit at hd
        simp only [Bool.and_eq_true, decide_eq_true_eq] at hd
        have : c.toNat ≠ 48 := fun e => h ((u8_eq (by decide)).mp e)
        omega
      by_cases h48 : c = 48
      · -- a nought is the whole number
        subst h48
        have e : numE least g p = if p + 1 = g.length then .error ⟨1, p + 1⟩ else if 0 < least ∨ 20 < 0 then .error ⟨3, p⟩ else .ok (.int (0 : Nat), p + 1) := by
          unfold numE timesP
          rw [drop_cons hc]
          dsimp only
          rw [if_neg (by decide), if_pos rfl]
          cases e2 : g[p + 1]? with
          | none =>
            have : p + 1 = g.length := by have := List.getElem?_eq_none_iff.mp e2; omega
            rw [drop_none e2, if_pos this]
          | some x =>
            have := lt_of_some e2
            rw [drop_cons e2, if_neg (by omega)]
            dsimp only
            by_cases c3 : 0 < least
            · rw [if_pos c3, if_pos (.inl c3)]
            · rw [if_neg c3, if_neg (by omega)]
        refine ⟨fun m σ H' => σ = [some (.ref a), some (.int (least : Nat)), some (.int (p : Nat)), some (.int ((0 : Nat) : Int))] ∧ At K C H' a dx ag (p + 1) an ab g ∧ Kept H H' a, ⟨0, rfl, h1, k1⟩, ?_⟩
        rintro m σ H5 ⟨rfl, h5, k5⟩
        refine ⟨_, rfl, _, _, rfl, rfl, _, rfl, if_false_of rfl (if_false_of rfl ?_)⟩
        exact tail (p + 1) 0 H5 (by omega) h5 k5 e
      · refine ⟨fun m σ H' => ∃ (q n : Nat) (i : Int), m = g.length - q ∧ σ = [some (.ref a), some (.int (least : Nat)), some (.int (p : Nat)), some (.int i)] ∧ i = n ∧ At K C H' a dx ag q an ab g ∧ Kept H H' a ∧ p < q ∧ 0 < n ∧
          ((c :: g.drop (p + 1)).takeWhile PatUtf.isDigit).foldl dig 0 = ((g.drop q).takeWhile PatUtf.isDigit).foldl dig n ∧ ((c :: g.drop (p + 1)).takeWhile PatUtf.isDigit).length = q - p + ((g.drop q).takeWhile PatUtf.isDigit).length,
          ⟨_, p + 1, c.toNat - 48, _, rfl, rfl, rfl, h1, k1, by omega, hpos48 h48, ?_, ?_⟩, ?_⟩
        · rw [List.takeWhile_cons, if_pos hd, List.foldl_cons]
          have : dig 0 c = c.toNat - 48 := by unfold dig; omega
          rw [this]
        · rw [List.takeWhile_cons, if_pos hd, List.length_cons]
          omega
        rintro m σ H5 ⟨q, n, i, rfl, rfl, rfl, h5, k5, hpq, hn0, hn, hl⟩
        refine ⟨_, rfl, _, _, rfl, rfl, _, rfl, if_true_of (decide_eq_true (by omega)) ?_⟩
        refine ⟨_, rfl, a, dx, _, rfl, h5.1, rF_no (by decide +kernel), ?_⟩
        refine at_use h5 (by decide +kernel) fun H6 s6 => ?_
        have h6 := h5.same s6
        have k6 := k5.trans (Kept.of_same s6)
        refine ⟨_, rfl, ?_⟩
        cases ea : isAt g q zFig with
        | false =>
          refine if_false_of rfl (tail q n H6 hpq h6 k6 (num_rest hc hd h48 hpq h6.2.2.1 hn hl fun x hx => ?_))
          rw [isAt_some hx, at_fig] at ea
          exact ea
        | true =>
          obtain ⟨x, hx, hxd⟩ : ∃ x, g[q]? = some x ∧ PatUtf.isDigit x = true := by
            cases e : g[q]? with
            | none => rw [isAt_none e] at ea; cases ea
            | some x => rw [isAt_some e, at_fig] at ea; exact ⟨x, rfl, ea⟩
          have hlq := lt_of_some hx
          refine if_true_of rfl ⟨fun σ' H' => ∃ (n' : Nat) (i' : Int), σ' = [some (.ref a), some (.int (least : Nat)), some (.int (p : Nat)), some (.int i')] ∧ i' = n' ∧ At K C H' a dx ag (q + 1) an ab g ∧ Kept H H' a ∧ 0 < n' ∧
            ((c :: g.drop (p + 1)).takeWhile PatUtf.isDigit).foldl dig 0 = ((g.drop (q + 1)).takeWhile PatUtf.isDigit).foldl dig n' ∧ ((c :: g.drop (p + 1)).takeWhile PatUtf.isDigit).length = q + 1 - p + ((g.drop (q + 1)).takeWhile PatUtf.isDigit).length, ?_, ?_⟩
          · rintro σ' H' ⟨n', i', rfl, rfl, h7, k7, hn7, e1, e2⟩
            exact ⟨g.length - (q + 1), by omega, q + 1, n', _, rfl, rfl, rfl, h7, k7, by omega, hn7, e1, e2⟩
          · refine ⟨_, rfl, _, _, rfl, rfl, .inr ⟨by decide, by decide⟩, _, rfl, a, dx, _, rfl, h6.1, rF_no (by decide +kernel), ?_⟩
            refine take_use h6 ?_
            rw [takeE_yes hx (by rw [at_fig]; exact hxd)]
            intro H7 r7 k7
            refine ⟨_, _, rfl, fig_int' hxd, (by show 1 ≤ 640; decide), _, _, rfl, rfl, ?_⟩
            refine ⟨dig n x, _, rfl, ?_, h6.next r7 k7 (by omega), k6.trans k7, dig_pos hn0 x, ?_, ?_⟩
            · unfold dig
              omega
            · rw [hn, drop_cons hx, List.takeWhile_cons, if_pos hxd, List.foldl_cons]
            · rw [hl, drop_cons hx, List.takeWhile_cons, if_pos hxd, List.length_cons]
              omega
end
end Pat
end

section
namespace Pat
open PySem PySem.Spec PyProof.Rows L2
open PySem.FaultX (FaultTxt)
open PatUtf (Fault)
open PatWords (valueP oneP partsP atomP timesP repP Pat)
/-- how often what is repeated stands there, written out -/
def timesOf : Pat → Nat
  | .rep _ m n => match n with
    | some k => k
    | none => max m 1
  | _ => 1
def repE (g : List UInt8) (p : Nat) : Except Fault (V × Nat) := match repP .nothing p (g.drop p) with
  | .error e => .error e
  | .ok (a, _, q) => .ok (.int (timesOf a : Nat), q)
theorem timesP_drop {g : List UInt8} {p n q : Nat} {r : List UInt8} (h : timesP p (g.drop p) = .ok (n, r, q)) : r = g.drop q ∧ p < q ∧ q < g.length := by
  unfold timesP at h
  cases hc : g[p]? with
  | none => rw [drop_none hc] at h; cases h
  | some c =>
    have hlt := lt_of_some hc
    rw [drop_cons hc] at h
    dsimp only at h
    split at h
    · cases h
    rename_i hd
    split at h
    · cases hx : g[p + 1]? with
      | none => rw [drop_none hx] at h; cases h
      | some x =>
        have := lt_of_some hx
        rw [drop_cons hx] at h
        cases h
        exact ⟨(drop_cons hx).symm, by omega, this⟩
    · split at h
      · cases h
      rename_i hl
      split at h
      · cases h
      · have hbl : (c :: g.drop (p + 1)).length = g.length - p := by rw [← drop_cons hc, List.length_drop]
        have hle : ((c :: g.drop (p + 1)).takeWhile PatUtf.isDigit).length ≤ (c :: g.drop (p + 1)).length := (List.takeWhile_prefix _).length_le
        have hpos : 0 < ((c :: g.drop (p + 1)).takeWhile PatUtf.isDigit).length := by
          rw [List.takeWhile_cons, if_pos (by simpa using hd)]
          exact Nat.succ_pos _
        cases h
        refine ⟨?_, by omega, by omega⟩
        rw [← drop_cons hc, List.drop_drop, drop_cons hc]
section
variable {P : Program} {w : World} {K : PySem.W.Frag} {mg : Str → Option Value} {base : Heap} {C CF fI : Addr} {H H1 H2 : Hp} {a dx ag an ab : Addr} {p q : Nat} {g : List UInt8} {z : Str} {Q : VK} {E : XK}
/-! ### take_braces -/
@[irreducible] def spBraces (K : PySem.W.Frag) (C CF : Addr) : Sp := fun vs H Q E => ∃ (a dx ag : Addr) (p : Nat) (an ab : Addr) (g : List UInt8), vs = [.ref a] ∧ At K C H a dx ag p an ab g ∧ g[p]? = some 123 ∧ Ret C CF a dx ag an ab H Q E (repE g p)
theorem braces_use (h : At K C H a dx ag p an ab g) (hc : g[p]? = some 123) (r : Ret C CF a dx ag an ab H Q E (repE g p)) : spBraces K C CF [.ref a] H Q E := by
  unfold spBraces
  exact ⟨a, dx, ag, p, an, ab, g, rfl, h, hc, r⟩
theorem scBraces : FnScope ["self", "least", "most"] ["self"] (defScope (sR 11)) := ⟨rfl, rfl, rfl, by decide +kernel, rfl, by decide +kernel, by decide +kernel⟩
theorem at_comma (c : UInt8) : (cds ",}").contains c.toNat = (decide (c = 44) || decide (c = 125)) :=
  beq_iff_eq.mp (u8_all (p := fun c => (cds ",}").contains c.toNat == (decide (c = 44) || decide (c = 125))) (by decide +kernel) c)
theorem rep_braces {g : List UInt8} {p : Nat} (h : g[p]? = some 123) : repP .nothing p (g.drop p) = (do
      let (m, s, q) ← timesP (p + 1) (g.drop (p + 1))
      (match s with
        | [] => .error ⟨1, q⟩
        | d :: u => if d = 125 then .ok (.rep .nothing m (some m), u, q + 1) else if d ≠ 44 then .error ⟨2, q⟩ else match u with
          | [] => .error ⟨1, q + 1⟩
          | e :: v => if e = 125 then .ok (.rep .nothing m none, v, q + 2) else do
            let (n, x, k) ← timesP (q + 1) u
            if n < m then .error ⟨3, q + 1⟩ else match x with
              | [] => .error ⟨1, k⟩
              | y :: z => if y = 125 then .ok (.rep .nothing m (some n), z, k + 1) else .error ⟨2, k⟩)) := by
  rw [drop_cons h]
  rfl
theorem ok_braces {f : Addr} {fd : FuncData} (F : Fun K "take_braces" "Reader.take_braces" (sR 11) f fd) (T : Txt K mg C CF fI) (hmax : mg "max" = none)
    (M1 : MOk P w K mg base CX0 C 2 "at" ["self", "signs"] (spAt K C)) (M2 : MOk P w K mg base (L2.CX P w) C 3 "take" ["self", "signs"] (spTake K C CF))
    (M3 : MOk P w K mg base (L2.CX P w) C 4 "take_number" ["self", "least"] (spNum K C CF)) : FnOk P w K mg base (L2.CX P w) 5 f fd ["self"] (spBraces K C CF) := by
  obtain ⟨f1, fd1, m1, b1, G1⟩ := M1
  obtain ⟨f2, fd2, m2, b2, G2⟩ := M2
  obtain ⟨f3, fd3, m3, b3, G3⟩ := M3
  refine F.okX scBraces (fun vs H Q E h => ?_) (fun cdv A outer s H vs Q E hr h => ⟨_, pss_cons (ps_expr (pe_meth (pv 0) T.cl m2 G2 (hr.mono (by decide)) b2 .nil (passes_call (takes_of rfl rfl rfl rfl) (fun _ _ _ _ h => h)) (by exact (pa_cons pe_str pa_nil))))
      (pss_cons (ps_set (i := 1) scBraces.nd rfl (Or.inl rfl) (pe_meth (pv 0) T.cl m3 G3 hr b3 .nil (passes_call (takes_of rfl rfl rfl rfl) (fun _ _ _ _ h => h)) (by exact (pa_cons pe_int pa_nil))))
      (pss_cons (ps_if (pt_cmpR op_eq (pe_meth (pv 0) T.cl m2 G2 (hr.mono (by decide)) b2 .nil (passes_call (takes_of rfl rfl rfl rfl) (fun _ _ _ _ h => h)) (by exact (pa_cons pe_str pa_nil))) pe_str (nomark _)) (pss_one (ps_ret (pv 1))) pss_nil)
      (pss_cons (ps_if (pt_val (pe_meth (pv 0) T.cl m1 G1 (hr.mono (by decide)) b1 .nil pass0 (pa_cons pe_str pa_nil)))
        (pss_cons (ps_expr (pe_meth (pv 0) T.cl m2 G2 (hr.mono (by decide)) b2 .nil (passes_call (takes_of rfl rfl rfl rfl) (fun _ _ _ _ h => h)) (by exact (pa_cons pe_str pa_nil))))
          (pss_one (ps_ret (pe_callB (call_max2 rfl) (by rfl) hmax (by decide +kernel) (by exact (pa_cons (pv 1) (pa_cons pe_int pa_nil))))))) pss_nil)
      (pss_cons (ps_set (i := 2) scBraces.nd rfl (Or.inl rfl) (pe_meth (pv 0) T.cl m3 G3 hr b3 .nil (passes_call (takes_of rfl rfl rfl rfl) (fun _ _ _ _ h => h)) (by exact (pa_cons (pv 1) pa_nil))))
      (pss_cons (ps_expr (pe_meth (pv 0) T.cl m2 G2 (hr.mono (by decide)) b2 .nil (passes_call (takes_of rfl rfl rfl rfl) (fun _ _ _ _ h => h)) (by exact (pa_cons pe_str pa_nil))))
      (pss_one (ps_ret (pv 2)))))))), ?_⟩)
  · unfold spBraces at h
    obtain ⟨_, _, _, _, _, _, _, rfl, _⟩ := h
    rfl
  unfold spBraces at h
  obtain ⟨a, dx, ag, p, an, ab, g, rfl, h, h123, hQ⟩ := h
  have hlt := lt_of_some h123
  unfold repE at hQ
  rw [rep_braces h123] at hQ
  refine ⟨_, rfl, a, dx, _, rfl, h.1, rF_no (by decide +kernel), ?_⟩
  refine take_use h ?_
  rw [takeE_yes h123 (by decide +kernel)]
  intro H1 r1 k1
  have h1 := h.next r1 k1 (by omega)
  refine ⟨_, rfl, a, dx, _, rfl, h1.1, rF_no (by decide +kernel), ?_⟩
  refine num_use (least := 0) h1 ?_
  unfold numE
  cases e1 : timesP (p + 1) (g.drop (p + 1)) with
  | error e => rw [e1] at hQ; exact hQ
  | ok y =>
    obtain ⟨m, s, q⟩ := y
    obtain ⟨hs, hpq, hql⟩ := timesP_drop e1
    subst hs
    rw [e1] at hQ
    dsimp only
    rw [if_neg (by omega)]
    intro H2 r2 k2
    have h2 := h1.next r2 k2 (by omega)
    have k12 := k1.trans k2
    refine ⟨_, rfl, a, dx, _, rfl, h2.1, rF_no (by decide +kernel), ?_⟩
    refine take_use h2 ?_
    have hd : g[q]? = some g[q] := List.getElem?_eq_getElem hql
    simp only [bind, Except.bind] at hQ
    rw [drop_cons hd] at hQ
    dsimp only at hQ
    by_cases c125 : g[q] = 125
    · rw [if_pos c125] at hQ
      rw [takeE_yes hd (by rw [at_comma, c125]; rfl), c125]
      intro H3 r3 k3
      have hQ' : ∀ H', RAt C H' a dx ag (q + 1) an ab → Kept H H' a → Q (.int (m : Nat)) H' := hQ
      exact ⟨rfl, _, rfl, if_true_of (by decide +kernel) ⟨_, rfl, hQ' H3 r3 (k12.trans k3)⟩⟩
    · rw [if_neg c125] at hQ
      by_cases c44 : g[q] = 44
      · rw [if_neg (fun x => x c44)] at hQ
        rw [takeE_yes hd (by rw [at_comma, c44]; rfl), c44]
        intro H3 r3 k3
        have h3 := h2.next r3 k3 (by omega)
        have k13 := k12.trans k3
        refine ⟨rfl, _, rfl, if_false_of (by decide +kernel) ?_⟩
        refine ⟨_, rfl, a, dx, _, rfl, h3.1, rF_no (by decide +kernel), ?_⟩
        refine at_use h3 (by decide +kernel) fun H4 s4 => ?_
        have h4 := h3.same s4
        have k14 := k13.trans (Kept.of_same s4)
        refine ⟨_, rfl, ?_⟩
        cases he : g[q + 1]? with
        | none =>
          rw [drop_none he] at hQ
          rw [isAt_none he]
          refine if_false_of rfl ?_
          refine ⟨_, rfl, a, dx, _, rfl, h4.1, rF_no (by decide +kernel), _, rfl, ?_⟩
          refine num_use h4 ?_
          unfold numE
          rw [drop_none he]
          exact hQ
        | some e =>
          have hle := lt_of_some he
          rw [drop_cons he] at hQ
          dsimp only at hQ
          rw [isAt_some he, at_sign (n := 125) (by decide +kernel)]
          by_cases e125 : e = 125
          · rw [if_pos e125] at hQ
            subst e125
            refine if_true_of rfl ?_
            refine ⟨_, rfl, a, dx, _, rfl, h4.1, rF_no (by decide +kernel), ?_⟩
            refine take_use h4 ?_
            rw [takeE_yes he (by decide +kernel)]
            intro H5 r5 k5
            have hQ' : ∀ H', RAt C H' a dx ag (q + 2) an ab → Kept H H' a → Q (.int ((max m 1 : Nat))) H' := hQ
            refine ⟨_, rfl, _, _, rfl, ?_⟩
            have em : (if (1 : Int) > (m : Nat) then (1 : Int) else (m : Nat)) = ((max m 1 : Nat) : Int) := by
              by_cases c : (1 : Int) > (m : Nat)
              · rw [if_pos c]
                omega
              · rw [if_neg c]
                omega
            rw [em]
            exact hQ' H5 r5 (k14.trans k5)
          · rw [if_neg e125, ← drop_cons he] at hQ
            refine if_false_of (decide_eq_false e125) ?_
            refine ⟨_, rfl, a, dx, _, rfl, h4.1, rF_no (by decide +kernel), _, rfl, ?_⟩
            refine num_use h4 ?_
            unfold numE
            cases e2 : timesP (q + 1) (g.drop (q + 1)) with
            | error x => rw [e2] at hQ; exact hQ
            | ok y2 =>
              obtain ⟨n, x, k⟩ := y2
              obtain ⟨hx, hqk, hkl⟩ := timesP_drop e2
              subst hx
              rw [e2] at hQ
              dsimp only at hQ ⊢
              by_cases cnm : n < m
              · rw [if_pos cnm] at hQ ⊢
                exact hQ
              · rw [if_neg cnm] at hQ ⊢
                intro H5 r5 k5
                have h5 := h4.next r5 k5 (by omega)
                have k15 := k14.trans k5
                refine ⟨_, rfl, a, dx, _, rfl, h5.1, rF_no (by decide +kernel), ?_⟩
                refine take_use h5 ?_
                have hy : g[k]? = some g[k] := List.getElem?_eq_getElem hkl
                rw [drop_cons hy] at hQ
                dsimp only at hQ
                by_cases y125 : g[k] = 125
                · rw [if_pos y125] at hQ
                  rw [takeE_yes hy (by rw [y125]; decide +kernel)]
                  intro H6 r6 k6
                  have hQ' : ∀ H', RAt C H' a dx ag (k + 1) an ab → Kept H H' a → Q (.int (n : Nat)) H' := hQ
                  exact ⟨_, rfl, hQ' H6 r6 (k15.trans k6)⟩
                · rw [if_neg y125] at hQ
                  rw [takeE_no hy (by rw [at_sign (n := 125) (by decide +kernel)]; exact decide_eq_false y125)]
                  exact hQ
      · rw [if_pos c44] at hQ
        rw [takeE_no hd (by rw [at_comma]; simp [c44, c125])]
        exact hQ
end
end Pat
end

section
namespace Pat
open PySem PySem.Spec PyProof.Rows L2
open PySem.FaultX (FaultTxt)
open PatUtf (Fault)
/-! ### an open bracket -/
def optI : Option Int → V
  | none => .non
  | some i => .int i
def bF (z : Str) (n : Int) (l : Option Int) : List (Str × V) := [("closing", .str z), ("atoms", .int n), ("last_atom", optI l)]
theorem bF_closing {z n l} : (bF z n l).lookup ("closing" : Str) = some (.str z) := lk_here
theorem bF_atoms {z n l} : (bF z n l).lookup ("atoms" : Str) = some (.int n) := (lk_past (by decide +kernel)).trans lk_here
theorem bF_last {z n l} : (bF z n l).lookup ("last_atom" : Str) = some (optI l) := (lk_past (by decide +kernel)).trans ((lk_past (by decide +kernel)).trans lk_here)
theorem bF_no {m : Str} {z n l} (h : (m == ("closing" : Str)) = false ∧ (m == ("atoms" : Str)) = false ∧ (m == ("last_atom" : Str)) = false) : (bF z n l).lookup m = none :=
  (lk_past h.1).trans ((lk_past h.2.1).trans ((lk_past h.2.2).trans rfl))
theorem bF_putA {z : Str} {n m : Int} {l : Option Int} : putF "atoms" (.int m) (bF z n l) = bF z m l := (put_past (by decide +kernel)).trans (congrArg _ put_here)
theorem bF_putL {z : Str} {n : Int} {l k : Option Int} : putF "last_atom" (optI k) (bF z n l) = bF z n k := (put_past (by decide +kernel)).trans (congrArg _ ((put_past (by decide +kernel)).trans (congrArg _ put_here)))
theorem bF_new {z : Str} : putF "last_atom" (optI none) (putF "atoms" (.int 0) (putF "closing" (.str z) [])) = bF z 0 none := by
  have e1 : putF "atoms" (.int 0) (putF "closing" (.str z) []) = [(("closing" : Str), V.str z), (("atoms" : Str), V.int 0)] := (put_past (by decide +kernel)).trans rfl
  rw [e1]
  exact (put_past (by decide +kernel)).trans (congrArg _ ((put_past (by decide +kernel)).trans rfl))
def BAt (CB : Addr) (H : Hp) (b dx : Addr) (z : Str) (n : Int) (l : Option Int) : Prop := H b = some (.ins CB dx (bF z n l))
structure TxB (K : PySem.W.Frag) (CB : Addr) : Prop where
  cl : Cls K CB
  nC : NoAttr K CB "closing"
  nA : NoAttr K CB "atoms"
  nL : NoAttr K CB "last_atom"
abbrev sB (j : Nat) : Stmt := inClass (top 32) j
section
variable {P : Program} {w : World} {K : PySem.W.Frag} {mg : Str → Option Value} {base : Heap} {CB : Addr} {H : Hp} {Q : VK} {E : XK}
@[irreducible] def spBInit (CB : Addr) : Sp := fun vs H Q _ => ∃ (b dx : Addr) (z : Str), vs = [.ref b, .str z] ∧ H b = some (.ins CB dx []) ∧ ∀ H', BAt CB H' b dx z 0 none → Kept H H' b → Q .non H'
@[irreducible] def spBAdd (CB : Addr) : Sp := fun vs H Q _ => ∃ (b dx : Addr) (z : Str) (n m : Int) (l : Option Int), vs = [.ref b, .int m] ∧ BAt CB H b dx z n l ∧ ∀ H', BAt CB H' b dx z (n + m) (some m) → Kept H H' b → Q .non H'
@[irreducible] def spBRep (CB : Addr) : Sp := fun vs H Q _ => ∃ (b dx : Addr) (z : Str) (n k m : Int), vs = [.ref b, .int k] ∧ 0 ≤ k ∧ k ≤ 1000 ∧ BAt CB H b dx z n (some m) ∧ ∀ H', BAt CB H' b dx z (n + (k - 1) * m) none → Kept H H' b → Q .non H'
@[irreducible] def spBEnd (CB : Addr) : Sp := fun vs H Q _ => ∃ (b dx : Addr) (z : Str) (n : Int) (l : Option Int), vs = [.ref b] ∧ BAt CB H b dx z n l ∧ ∀ H', BAt CB H' b dx z n none → Kept H H' b → Q .non H'
theorem scBI : FnScope ["self", "closing"] ["self", "closing"] (defScope (sB 0)) := ⟨rfl, rfl, rfl, by decide +kernel, rfl, by decide +kernel, by decide +kernel⟩
theorem scBA : FnScope ["self", "atoms"] ["self", "atoms"] (defScope (sB 1)) := ⟨rfl, rfl, rfl, by decide +kernel, rfl, by decide +kernel, by decide +kernel⟩
theorem scBR : FnScope ["self", "times"] ["self", "times"] (defScope (sB 2)) := ⟨rfl, rfl, rfl, by decide +kernel, rfl, by decide +kernel, by decide +kernel⟩
theorem scBE : FnScope ["self"] ["self"] (defScope (sB 3)) := ⟨rfl, rfl, rfl, by decide +kernel, rfl, by decide +kernel, by decide +kernel⟩
theorem ok_binit {f : Addr} {fd : FuncData} (F : Fun K "__init__" "Bracket.__init__" (sB 0) f fd) (T : TxB K CB) : FnOk P w K mg base CX0 1 f fd ["self", "closing"] (spBInit CB) := by
  refine F.ok scBI (fun vs H Q E h => ?_) (fun cdv A outer s H vs Q E hr h => ⟨_, pss_cons (ps_fld (pv 0) (pv 1) rfl) (pss_cons (ps_fld (pv 0) pe_int rfl) (pss_one (ps_fld (pv 0) pe_non rfl))), ?_⟩)
  · unfold spBInit at h
    obtain ⟨_, _, _, rfl, _⟩ := h
    rfl
  unfold spBInit at h
  obtain ⟨b, dx, z, rfl, hb, hQ⟩ := h
  refine ⟨_, rfl, _, rfl, b, CB, dx, _, rfl, hb, T.cl, T.nC, by show 0 < 1000; decide, ?_⟩
  refine ⟨_, rfl, b, CB, dx, _, rfl, upd_same, T.cl, T.nA, by show 1 < 1000; decide, ?_⟩
  refine ⟨_, rfl, b, CB, dx, _, rfl, upd_same, T.cl, T.nL, by show 2 < 1000; decide, ?_⟩
  exact hQ _ (upd_same.trans (congrArg (fun q => some (HO.ins CB dx q)) bF_new)) ((Kept.upd.trans Kept.upd).trans Kept.upd)
theorem ok_badd {f : Addr} {fd : FuncData} (F : Fun K "add_atom" "Bracket.add_atom" (sB 1) f fd) (T : TxB K CB) : FnOk P w K mg base CX0 1 f fd ["self", "atoms"] (spBAdd CB) := by
  refine F.ok scBA (fun vs H Q E h => ?_) (fun cdv A outer s H vs Q E hr h => ⟨_, pss_cons (ps_fldaug (pv 0) (pv 1) in_add) (pss_one (ps_fld (pv 0) (pv 1) rfl)), ?_⟩)
  · unfold spBAdd at h
    obtain ⟨_, _, _, _, _, _, rfl, _⟩ := h
    rfl
  unfold spBAdd at h
  obtain ⟨b, dx, z, n, m, l, rfl, hb, hQ⟩ := h
  refine ⟨_, rfl, b, CB, dx, _, _, rfl, hb, T.cl, T.nA, bF_atoms, _, rfl, _, _, rfl, rfl, dx, _, hb, by show 3 < 1000; decide, ?_⟩
  refine ⟨_, rfl, _, rfl, b, CB, dx, _, rfl, upd_same, T.cl, T.nL, ?_, ?_⟩
  · rw [bF_putA]
    show 3 < 1000
    decide
  · rw [bF_putA]
    exact hQ _ (upd_same.trans (congrArg (fun q => some (HO.ins CB dx q)) (bF_putL (k := some m)))) (Kept.upd.trans Kept.upd)
theorem ok_brep {f : Addr} {fd : FuncData} (F : Fun K "repeat_atom" "Bracket.repeat_atom" (sB 2) f fd) (T : TxB K CB) : FnOk P w K mg base CX0 1 f fd ["self", "times"] (spBRep CB) := by
  refine F.ok scBR (fun vs H Q E h => ?_) (fun cdv A outer s H vs Q E hr h => ⟨_, pss_cons (ps_fldaug (pv 0) (pe_op op_mul (pe_op op_sub (pv 1) pe_int) (pe_fld (pv 0) rfl)) in_add) (pss_one (ps_fld (pv 0) pe_non rfl)), ?_⟩)
  · unfold spBRep at h
    obtain ⟨_, _, _, _, _, _, rfl, _⟩ := h
    rfl
  unfold spBRep at h
  obtain ⟨b, dx, z, n, k, m, rfl, hk0, hk1, hb, hQ⟩ := h
  refine ⟨_, rfl, b, CB, dx, _, _, rfl, hb, T.cl, T.nA, bF_atoms, _, rfl, _, _, rfl, rfl, _, rfl, b, CB, dx, _, _, rfl, hb, T.cl, T.nL, bF_last, _, _, rfl, rfl, .inl ⟨by omega, by omega⟩, _, _, rfl, rfl, dx, _, hb, by show 3 < 1000; decide, ?_⟩
  refine ⟨_, rfl, b, CB, dx, _, rfl, upd_same, T.cl, T.nL, ?_, ?_⟩
  · rw [bF_putA]
    show 3 < 1000
    decide
  · rw [bF_putA]
    exact hQ _ (upd_same.trans (congrArg (fun q => some (HO.ins CB dx q)) (bF_putL (k := none)))) (Kept.upd.trans Kept.upd)
theorem ok_bend {f : Addr} {fd : FuncData} (F : Fun K "end_row" "Bracket.end_row" (sB 3) f fd) (T : TxB K CB) : FnOk P w K mg base CX0 1 f fd ["self"] (spBEnd CB) := by
  refine F.ok scBE (fun vs H Q E h => ?_) (fun cdv A outer s H vs Q E hr h => ⟨_, pss_one (ps_fld (pv 0) pe_non rfl), ?_⟩)
  · unfold spBEnd at h
    obtain ⟨_, _, _, _, _, rfl, _⟩ := h
    rfl
  unfold spBEnd at h
  obtain ⟨b, dx, z, n, l, rfl, hb, hQ⟩ := h
  refine ⟨_, rfl, b, CB, dx, _, rfl, hb, T.cl, T.nL, by show 3 < 1000; decide, ?_⟩
  exact hQ _ (upd_same.trans (congrArg (fun q => some (HO.ins CB dx q)) (bF_putL (k := none)))) Kept.upd
end
end Pat
end

section
namespace Pat
open PySem PySem.Spec PyProof.Rows L2
open PySem.FaultX (FaultTxt)
open PatUtf (Fault)
open PatWords (Pat repP Name)
open Mach (Fr)
/-! ### sizes -/
def fsize (fr : Fr) : Nat := (fr.rows.map Pat.size).sum + (fr.items.map Pat.size).sum
theorem seqs_size : ∀ l : List Pat, (Mach.seqs l).size = (l.map Pat.size).sum
  | [] => rfl
  | a :: l => by
    show a.size + (Mach.seqs l).size = _
    rw [seqs_size l, List.map_cons, List.sum_cons]
theorem alts_size : ∀ l : List Pat, (Mach.alts l).size = (l.map Pat.size).sum
  | [] => rfl
  | [a] => by simp [Mach.alts]
  | a :: b :: l => by
    show a.size + (Mach.alts (b :: l)).size = ((a :: b :: l).map Pat.size).sum
    simp only [alts_size (b :: l), List.map_cons, List.sum_cons]
theorem pat_size (fr : Fr) : fr.pat.size = fsize fr := by
  unfold Mach.Fr.pat fsize
  rw [alts_size, List.map_append, List.sum_append, List.map_singleton, List.sum_singleton, seqs_size]
theorem atom_size (fr : Fr) : fr.atom.size = fsize fr := by
  unfold Mach.Fr.atom
  cases fr.name with
  | none => exact pat_size fr
  | some n =>
    show fr.pat.size = _
    exact pat_size fr
def flast (fr : Fr) : Option Int := if fr.last = true then some (((fr.items.getLast?.getD .nothing).size : Nat) : Int) else none
def fclose (fr : Fr) : Str := ⟨(fr.close.map (·.toNat)).toArray⟩
theorem push_size (fr : Fr) (a : Pat) : fsize (fr.push a) = fsize fr + a.size := by
  unfold fsize Mach.Fr.push
  simp only [List.map_append, List.sum_append, List.map_singleton, List.sum_singleton]
  omega
theorem push_last (fr : Fr) (a : Pat) : flast (fr.push a) = some ((a.size : Nat) : Int) := by
  unfold flast Mach.Fr.push
  simp
theorem bar_size (fr : Fr) : fsize fr.bar = fsize fr := by
  unfold fsize Mach.Fr.bar
  simp only [List.map_append, List.sum_append, List.map_singleton, List.sum_singleton, seqs_size, List.map_nil, List.sum_nil]
  omega
theorem bar_last (fr : Fr) : flast fr.bar = none := rfl
theorem swap_last (fr : Fr) (a : Pat) : flast (fr.swap a) = none := rfl
/-! ### the pile of brackets in the heap -/
def Stk (CB : Addr) (H : Hp) : List Addr → List Fr → Prop
  | [], [] => True
  | b :: bs, fr :: frs => ((∃ dx, BAt CB H b dx (fclose fr) ((fsize fr : Nat) : Int) (flast fr)) ∧ (fr.last = true → fr.items ≠ []) ∧ fr.close.length ≤ 1 ∧ (frs = [] → fr.close = [])) ∧ b ∉ bs ∧ Stk CB H bs frs
  | _, _ => False
theorem Stk.kept {CB : Addr} {H H' : Hp} {x : Addr} (k : Kept H H' x) : ∀ {bs : List Addr} {frs : List Fr}, Stk CB H bs frs → x ∉ bs → Stk CB H' bs frs
  | [], [], _, _ => trivial
  | [], _ :: _, h, _ => h.elim
  | _ :: _, [], h, _ => h.elim
  | b :: bs, fr :: frs, ⟨⟨⟨dx, h1⟩, h2⟩, h3, h4⟩, hx =>
    ⟨⟨⟨dx, k _ _ h1 fun e => hx (by rw [← e]; exact List.mem_cons_self ..)⟩, h2⟩, h3, Stk.kept k h4 fun m => hx (List.mem_cons_of_mem _ m)⟩
theorem Stk.mem {CB : Addr} {H : Hp} : ∀ {bs : List Addr} {frs : List Fr}, Stk CB H bs frs → ∀ b ∈ bs, ∃ dx z n l, BAt CB H b dx z n l
  | [], [], _, _, m => nomatch m
  | [], _ :: _, h, _, _ => h.elim
  | _ :: _, [], h, _, _ => h.elim
  | b :: bs, fr :: frs, ⟨⟨⟨dx, h1⟩, h2⟩, h3, h4⟩, x, m => by
    rcases List.mem_cons.mp m with e | m
    · subst e
      exact ⟨_, _, _, _, h1⟩
    · exact Stk.mem h4 x m
theorem Stk.len {CB : Addr} {H : Hp} : ∀ {bs : List Addr} {frs : List Fr}, Stk CB H bs frs → bs.length = frs.length
  | [], [], _ => rfl
  | [], _ :: _, h => h.elim
  | _ :: _, [], h => h.elim
  | b :: bs, fr :: frs, ⟨_, _, h4⟩ => congrArg (· + 1) (Stk.len h4)
def Nms (K : PySem.W.Frag) (H : Hp) : List Addr → List (Nat × Name) → Prop
  | [], [] => True
  | t :: ts, n :: ns => SqT K H t [.int (n.1 : Nat), .int (n.2.length : Nat)] ∧ Nms K H ts ns
  | _, _ => False
theorem sqt_kept {K : PySem.W.Frag} {H H' : Hp} {a t dx C : Addr} {fs : List (Str × V)} {xs : List V} (h : SqT K H t xs) (e : H a = some (.ins C dx fs)) (k : Kept H H' a) : SqT K H' t xs := by
  rcases h with (h | ⟨o, h⟩) | h
  · exact .inl (.inl (k _ _ h (ne_of h e (by intro z; cases z))))
  · exact .inl (.inr ⟨o, k _ _ h (ne_of h e (by intro z; cases z))⟩)
  · exact .inr h
theorem Nms.map {K : PySem.W.Frag} {H H' : Hp} (k : ∀ t xs, SqT K H t xs → SqT K H' t xs) : ∀ {ts : List Addr} {ns : List (Nat × Name)}, Nms K H ts ns → Nms K H' ts ns
  | [], [], _ => trivial
  | [], _ :: _, h => h.elim
  | _ :: _, [], h => h.elim
  | t :: ts, n :: ns, ⟨h1, h2⟩ => ⟨k _ _ h1, Nms.map k h2⟩
theorem Nms.len {K : PySem.W.Frag} {H : Hp} : ∀ {ts : List Addr} {ns : List (Nat × Name)}, Nms K H ts ns → ts.length = ns.length
  | [], [], _ => rfl
  | [], _ :: _, h => h.elim
  | _ :: _, [], h => h.elim
  | t :: ts, n :: ns, ⟨h1, h2⟩ => congrArg (· + 1) (Nms.len h2)
theorem Nms.snoc {K : PySem.W.Frag} {H : Hp} {t : Addr} {n : Nat × Name} (ht : SqT K H t [.int (n.1 : Nat), .int (n.2.length : Nat)]) : ∀ {ts : List Addr} {ns : List (Nat × Name)}, Nms K H ts ns → Nms K H (ts ++ [t]) (ns ++ [n])
  | [], [], _ => ⟨ht, trivial⟩
  | [], _ :: _, h => h.elim
  | _ :: _, [], h => h.elim
  | _ :: ts, _ :: ns, ⟨h1, h2⟩ => ⟨h1, Nms.snoc ht h2⟩
theorem Nms.get {K : PySem.W.Frag} {H : Hp} : ∀ {ts : List Addr} {ns : List (Nat × Name)} {i : Nat} {t : Addr}, Nms K H ts ns → ts[i]? = some t → ∃ n, ns[i]? = some n ∧ SqT K H t [.int (n.1 : Nat), .int (n.2.length : Nat)]
  | [], [], _, _, _, e => nomatch e
  | [], _ :: _, _, _, h, _ => h.elim
  | _ :: _, [], _, _, h, _ => h.elim
  | t :: ts, n :: ns, 0, u, ⟨h1, h2⟩, e => by
    cases e
    exact ⟨n, rfl, h1⟩
  | t :: ts, n :: ns, i + 1, u, ⟨h1, h2⟩, e => Nms.get (ts := ts) (ns := ns) (i := i) h2 e
def NmOk (g : List UInt8) (x : Nat × Name) : Prop := x.2 = (g.drop x.1).take x.2.length
/-- the reader at a, all of it -/
structure RS (K : PySem.W.Frag) (C CB : Addr) (H : Hp) (a dx ag an ab : Addr) (g : List UInt8) (ts bs : List Addr) (st : Mach.St) : Prop where
  rd : At K C H a dx ag st.p an ab g
  b : st.b = g.drop st.p
  nl : H an = some (.lst (ts.map V.ref))
  nm : Nms K H ts st.ns
  ok : ∀ x ∈ st.ns, NmOk g x
  bl : H ab = some (.lst (bs.reverse.map V.ref))
  nab : an ≠ ab
  nag : (ag ≠ ab ∧ ag ≠ an) ∨ ∀ H', SqL K H' ag (gv g)
  sk : Stk CB H bs st.frs
  nlen : st.ns.length ≤ 16
  flen : st.frs.length ≤ 41
section
variable {K : PySem.W.Frag} {C CB CF : Addr} {H H1 : Hp} {a dx ag an ab : Addr} {g : List UInt8} {ts bs : List Addr} {st : Mach.St} {q : Nat} {Q : VK} {E : XK}
theorem rd_ne_b {b dxb : Addr} {z : Str} {n : Int} {l : Option Int} {p : Nat} (h : RAt C H a dx ag p an ab) (hb : BAt CB H b dxb z n l) : a ≠ b := fun e => by
  subst e
  have e2 : some (HO.ins C dx (rF ag p an ab)) = some (HO.ins CB dxb (bF z n l)) := h.symm.trans hb
  injection e2 with e2
  injection e2 with _ _ e3
  have e4 := congrArg List.length e3
  exact absurd e4 (by show ¬ 4 = 3; decide)
theorem RS.notin (h : RS K C CB H a dx ag an ab g ts bs st) : a ∉ bs := fun m => by
  obtain ⟨_, _, _, _, hb⟩ := Stk.mem h.sk a m
  exact rd_ne_b h.rd.1 hb rfl
theorem RS.go (h : RS K C CB H a dx ag an ab g ts bs st) (r : RAt C H1 a dx ag q an ab) (k : Kept H H1 a) (hq : q ≤ g.length) : RS K C CB H1 a dx ag an ab g ts bs { st with p := q, b := g.drop q } where
  rd := h.rd.next r k hq
  b := rfl
  nl := k _ _ h.nl (ne_of h.nl h.rd.1 (by intro z; cases z))
  nm := Nms.map (fun t xs e => sqt_kept e h.rd.1 k) h.nm
  ok := h.ok
  bl := k _ _ h.bl (ne_of h.bl h.rd.1 (by intro z; cases z))
  nab := h.nab
  nag := h.nag
  sk := Stk.kept k h.sk h.notin
  nlen := h.nlen
  flen := h.flen
theorem sqt_same {K : PySem.W.Frag} {H H' : Hp} {t : Addr} {xs : List V} (h : SqT K H t xs) (s : Same H H') : SqT K H' t xs := by
  rcases h with (h | ⟨o, h⟩) | h
  · exact .inl (.inl (s _ _ h))
  · exact .inl (.inr ⟨o, s _ _ h⟩)
  · exact .inr h
theorem Stk.same {CB : Addr} {H H' : Hp} (k : Same H H') : ∀ {bs : List Addr} {frs : List Fr}, Stk CB H bs frs → Stk CB H' bs frs
  | [], [], _ => trivial
  | [], _ :: _, h => h.elim
  | _ :: _, [], h => h.elim
  | b :: bs, fr :: frs, ⟨⟨⟨dx, h1⟩, h2⟩, h3, h4⟩ => ⟨⟨⟨dx, k _ _ h1⟩, h2⟩, h3, Stk.same k h4⟩
theorem RS.same (h : RS K C CB H a dx ag an ab g ts bs st) (s : Same H H1) : RS K C CB H1 a dx ag an ab g ts bs st where
  rd := h.rd.same s
  b := h.b
  nl := s _ _ h.nl
  nm := Nms.map (fun t xs e => sqt_same e s) h.nm
  ok := h.ok
  bl := s _ _ h.bl
  nab := h.nab
  nag := h.nag
  sk := Stk.same s h.sk
  nlen := h.nlen
  flen := h.flen
/-- the topmost bracket is changed -/
theorem RS.top {b : Addr} {fr fr' : Fr} {frs : List Fr} (h : RS K C CB H a dx ag an ab g ts (b :: bs) st) (hf : st.frs = fr :: frs) {dxb : Addr} (hb : BAt CB H1 b dxb (fclose fr') ((fsize fr' : Nat) : Int) (flast fr')) (hl : fr'.last = true → fr'.items ≠ []) (hcl : fr'.close = fr.close) (k : Kept H H1 b) :
    RS K C CB H1 a dx ag an ab g ts (b :: bs) { st with frs := fr' :: frs } := by
  have sk := h.sk
  rw [hf] at sk
  obtain ⟨⟨⟨dx0, hb0⟩, _, hc1, hc2⟩, hnb, hs⟩ := sk
  have hab : a ≠ b := rd_ne_b h.rd.1 hb0
  have hfl := h.flen
  rw [hf] at hfl
  exact {
    rd := ⟨k _ _ h.rd.1 hab, seq_kept h.rd.2.1 hb0 k, h.rd.2.2⟩
    b := h.b
    nl := k _ _ h.nl (ne_of h.nl hb0 (by intro z; cases z))
    nm := Nms.map (fun t xs e => sqt_kept e hb0 k) h.nm
    ok := h.ok
    bl := k _ _ h.bl (ne_of h.bl hb0 (by intro z; cases z))
    nab := h.nab
    nag := h.nag
    sk := ⟨⟨⟨dxb, hb⟩, hl, by rw [hcl]; exact hc1, by rw [hcl]; exact hc2⟩, hnb, Stk.kept k hs hnb⟩
    nlen := h.nlen
    flen := hfl }
/-- the topmost bracket by its place in the list -/
theorem RS.lastB {b : Addr} (h : RS K C CB H a dx ag an ab g ts (b :: bs) st) : SqL K H ab ((bs.reverse.map V.ref) ++ [V.ref b]) := by
  refine SqL.of ?_
  have e := h.bl
  rw [List.reverse_cons, List.map_append] at e
  exact e
theorem sqt_upd {K : PySem.W.Frag} {H : Hp} {l t : Addr} {xs ys zs : List V} (h : SqT K H t xs) (e : H l = some (.lst ys)) : SqT K (upd H l (.lst zs)) t xs := by
  rcases h with (h | ⟨o, h⟩) | h
  · exact .inl (.inl ((upd_ne (ne_of h e (by intro z; cases z))).trans h))
  · exact .inl (.inr ⟨o, (upd_ne (ne_of h e (by intro z; cases z))).trans h⟩)
  · exact .inr h
theorem sql_upd {K : PySem.W.Frag} {H : Hp} {l t : Addr} {xs zs : List V} (h : SqL K H t xs) (n : t ≠ l) : SqL K (upd H l (.lst zs)) t xs := by
  rcases h with (h | ⟨o, h⟩) | h
  · exact .inl (.inl ((upd_ne n).trans h))
  · exact .inl (.inr ⟨o, (upd_ne n).trans h⟩)
  · exact .inr h
/-- the list of brackets is written anew -/
theorem RS.pile {bs' : List Addr} {frs' : List Fr} (h : RS K C CB H a dx ag an ab g ts bs st) (hs : Stk CB H bs' frs') (hl : frs'.length ≤ 41) :
    RS K C CB (upd H ab (.lst (bs'.reverse.map V.ref))) a dx ag an ab g ts bs' { st with frs := frs' } where
  rd := ⟨(upd_ne (ne_of h.rd.1 h.bl (by intro z; cases z))).trans h.rd.1, (h.nag.elim (fun n => sql_upd h.rd.2.1 n.1) fun all => all _), h.rd.2.2⟩
  b := h.b
  nl := (upd_ne h.nab).trans h.nl
  nm := Nms.map (fun t xs e => sqt_upd e h.bl) h.nm
  ok := h.ok
  bl := upd_same
  nab := h.nab
  nag := h.nag
  sk := Stk.kept Kept.upd hs fun m => by
    obtain ⟨_, _, _, _, hx⟩ := Stk.mem hs _ m
    exact absurd rfl (ne_of hx h.bl (by intro z; cases z))
  nlen := h.nlen
  flen := hl
/-- how a step ends -/
def StepRet (K : PySem.W.Frag) (C CB CF : Addr) (a dx ag an ab : Addr) (g : List UInt8) (Q : VK) (E : XK) (res : Except Fault Mach.St) : Prop := match res with
  | .error e => Out CF e E
  | .ok st' => ∀ H' ts' bs', RS K C CB H' a dx ag an ab g ts' bs' st' → Q .non H'
end
end Pat
end

section
namespace Pat
open PySem PySem.Spec PyProof.Rows L2
open PySem.FaultX (FaultTxt)
open PatUtf (Fault)
open PatWords (Pat repP timesP Name)
open Mach (Fr)
theorem timesP_le {p n q : Nat} {b r : List UInt8} (h : timesP p b = .ok (n, r, q)) : n ≤ 20 := by
  unfold timesP at h
  cases b with
  | nil => cases h
  | cons c b =>
    dsimp only at h
    split at h
    · cases h
    split at h
    · cases b with
      | nil => cases h
      | cons d s => cases h; omega
    · split at h
      · cases h
      split at h
      · cases h
      · rename_i hn
        cases h
        exact Nat.not_lt.mp hn
/-- a repetition of what: only the sizes are of it -/
theorem rep_gen {a : Pat} {p : Nat} {c : UInt8} {r : List UInt8} (hc : Mach.isRep c = true) :
    match repP .nothing p (c :: r) with
    | .error e => repP a p (c :: r) = .error e
    | .ok (x, s, q) => ∃ m n, x = .rep .nothing m n ∧ repP a p (c :: r) = .ok (.rep a m n, s, q) ∧ timesOf x ≤ 20 := by
  by_cases h1 : c = 42
  · subst h1
    exact ⟨0, none, rfl, rfl, by decide⟩
  by_cases h2 : c = 43
  · subst h2
    exact ⟨1, none, rfl, rfl, by decide⟩
  by_cases h3 : c = 63
  · subst h3
    exact ⟨0, some 1, rfl, rfl, by decide⟩
  have h4 : c = 123 := by
    simp only [Mach.isRep, Bool.or_eq_true, beq_iff_eq] at hc
    rcases hc with ((h | h) | h) | h
    · exact absurd h h1
    · exact absurd h h2
    · exact absurd h h3
    · exact h
  subst h4
  unfold repP
  simp only [h1, h2, h3, if_false, if_true]
  cases e1 : timesP (p + 1) r with
  | error e => rfl
  | ok y =>
    obtain ⟨m, s, q⟩ := y
    have hm := timesP_le e1
    simp only [bind, Except.bind]
    cases s with
    | nil => rfl
    | cons d u =>
      dsimp only
      by_cases c1 : d = 125
      · rw [if_pos c1, if_pos c1]
        exact ⟨m, some m, rfl, rfl, hm⟩
      · rw [if_neg c1, if_neg c1]
        by_cases c2 : d ≠ 44
        · rw [if_pos c2, if_pos c2]
        · rw [if_neg c2, if_neg c2]
          cases u with
          | nil => rfl
          | cons e v =>
            dsimp only
            by_cases c3 : e = 125
            · rw [if_pos c3, if_pos c3]
              refine ⟨m, none, rfl, rfl, ?_⟩
              show max m 1 ≤ 20
              omega
            · rw [if_neg c3, if_neg c3]
              cases e2 : timesP (q + 1) (e :: v) with
              | error e => rfl
              | ok y2 =>
                obtain ⟨n, x, k⟩ := y2
                have hn := timesP_le e2
                dsimp only
                by_cases c4 : n < m
                · rw [if_pos c4, if_pos c4]
                · rw [if_neg c4, if_neg c4]
                  cases x with
                  | nil => rfl
                  | cons y z =>
                    dsimp only
                    by_cases c5 : y = 125
                    · rw [if_pos c5, if_pos c5]
                      exact ⟨m, some n, rfl, rfl, hn⟩
                    · rw [if_neg c5, if_neg c5]
theorem rep_size (a : Pat) (m : Nat) (n : Option Nat) : (Pat.rep a m n).size = timesOf (.rep .nothing m n) * a.size := by
  cases n <;> rfl
theorem repP_drop {g : List UInt8} {p q : Nat} {a x : Pat} {s : List UInt8} (h : repP a p (g.drop p) = .ok (x, s, q)) (hp : p ≤ g.length) : s = g.drop q ∧ q ≤ g.length := by
  unfold repP at h
  cases hc : g[p]? with
  | none => rw [drop_none hc] at h; cases h; exact ⟨(drop_none hc).symm, hp⟩
  | some c =>
    have hlt := lt_of_some hc
    rw [drop_cons hc] at h
    dsimp only at h
    split at h
    · cases h; exact ⟨rfl, by omega⟩
    split at h
    · cases h; exact ⟨rfl, by omega⟩
    split at h
    · cases h; exact ⟨rfl, by omega⟩
    split at h
    · cases e1 : timesP (p + 1) (g.drop (p + 1)) with
      | error e => rw [e1] at h; cases h
      | ok y =>
        obtain ⟨m, s1, q1⟩ := y
        obtain ⟨hs, hpq, hql⟩ := timesP_drop e1
        subst hs
        rw [e1] at h
        simp only [bind, Except.bind] at h
        have hd : g[q1]? = some g[q1] := List.getElem?_eq_getElem hql
        rw [drop_cons hd] at h
        dsimp only at h
        split at h
        · cases h; exact ⟨rfl, by omega⟩
        split at h
        · cases h
        cases he : g[q1 + 1]? with
        | none => rw [drop_none he] at h; cases h
        | some e =>
          have hle := lt_of_some he
          rw [drop_cons he] at h
          dsimp only at h
          split at h
          · cases h; exact ⟨rfl, by omega⟩
          rw [← drop_cons he] at h
          cases e2 : timesP (q1 + 1) (g.drop (q1 + 1)) with
          | error e => rw [e2] at h; cases h
          | ok y2 =>
            obtain ⟨n, x2, k⟩ := y2
            obtain ⟨hx, hqk, hkl⟩ := timesP_drop e2
            subst hx
            rw [e2] at h
            dsimp only at h
            split at h
            · cases h
            have hy : g[k]? = some g[k] := List.getElem?_eq_getElem hkl
            rw [drop_cons hy] at h
            dsimp only at h
            split at h
            · cases h; exact ⟨rfl, by omega⟩
            · cases h
    · cases h
      exact ⟨(drop_cons hc).symm, hp⟩
def repStep (g : List UInt8) (st : Mach.St) (fr : Fr) (frs : List Fr) : Except Fault Mach.St := if fr.last = true then (match repP (fr.items.getLast?.getD .nothing) st.p (g.drop st.p) with
    | .error e => .error e
    | .ok (x, s, q) => .ok ⟨q, s, st.ns, fr.swap x :: frs⟩) else .error ⟨2, st.p⟩
section
variable {P : Program} {w : World} {K : PySem.W.Frag} {mg : Str → Option Value} {base : Heap} {C CB CF fI : Addr} {H : Hp} {a dx ag an ab : Addr} {g : List UInt8} {ts bs : List Addr} {st : Mach.St} {Q : VK} {E : XK}
@[irreducible] def spRepS (K : PySem.W.Frag) (C CB CF : Addr) : Sp := fun vs H Q E => ∃ (a dx ag an ab : Addr) (g : List UInt8) (ts bs : List Addr) (st : Mach.St) (fr : Fr) (frs : List Fr) (c : UInt8), vs = [.ref a] ∧ RS K C CB H a dx ag an ab g ts bs st ∧ st.frs = fr :: frs ∧
  g[st.p]? = some c ∧ Mach.isRep c = true ∧ StepRet K C CB CF a dx ag an ab g Q E (repStep g st fr frs)
theorem repS_use {fr : Fr} {frs : List Fr} {c : UInt8} (h : RS K C CB H a dx ag an ab g ts bs st) (hf : st.frs = fr :: frs) (hc : g[st.p]? = some c) (hr : Mach.isRep c = true) (r : StepRet K C CB CF a dx ag an ab g Q E (repStep g st fr frs)) : spRepS K C CB CF [.ref a] H Q E := by
  unfold spRepS
  exact ⟨a, dx, ag, an, ab, g, ts, bs, st, fr, frs, c, rfl, h, hf, hc, hr, r⟩
theorem brep_use {b dxb : Addr} {z : Str} {n k m : Int} (hb : BAt CB H b dxb z n (some m)) (hk0 : 0 ≤ k) (hk1 : k ≤ 1000) (r : ∀ H', BAt CB H' b dxb z (n + (k - 1) * m) none → Kept H H' b → Q .non H') : spBRep CB [.ref b, .int k] H Q E := by
  unfold spBRep
  exact ⟨b, dxb, z, n, k, m, rfl, hk0, hk1, hb, r⟩
theorem scRepS : FnScope ["self", "times"] ["self"] (defScope (sR 12)) := ⟨rfl, rfl, rfl, by decide +kernel, rfl, by decide +kernel, by decide +kernel⟩
theorem ok_repS {f : Addr} {fd : FuncData} (F : Fun K "take_repetition" "Reader.take_repetition" (sR 12) f fd) (T : Txt K mg C CF fI) (TB : TxB K CB)
    (M1 : MOk P w K mg base CX0 C 2 "at" ["self", "signs"] (spAt K C)) (M2 : MOk P w K mg base (L2.CX P w) C 5 "take_braces" ["self"] (spBraces K C CF))
    (M3 : MOk P w K mg base (L2.CX P w) C 3 "take" ["self", "signs"] (spTake K C CF)) (M4 : MOk P w K mg base CX0 CB 1 "repeat_atom" ["self", "times"] (spBRep CB)) :
    FnOk P w K mg base (L2.CX P w) 6 f fd ["self"] (spRepS K C CB CF) := by
  obtain ⟨f1, fd1, m1, b1, G1⟩ := M1
  obtain ⟨f2, fd2, m2, b2, G2⟩ := M2
  obtain ⟨f3, fd3, m3, b3, G3⟩ := M3
  obtain ⟨f4, fd4, m4, b4, G4⟩ := M4
  refine F.okX scRepS (fun vs H Q E h => ?_) (fun cdv A outer s H vs Q E hr h => ⟨_, pss_cons (ps_if (pt_cmpR op_isN (pe_fld (pe_ix ix_list (pe_fld (pv 0) rfl) (pe_un un_neg pe_int) (fun _ _ => rfl)) rfl) pe_non (nomark _))
        (pss_one (ps_raiseFault rfl T.ft hr (takes_of rfl rfl rfl rfl) (by exact (pa_cons (pe_gi T.k2) (pa_cons (pe_fld (pv 0) rfl) pa_nil))))) pss_nil)
      (pss_cons (ps_set (i := 1) scRepS.nd rfl (Or.inl rfl) pe_int)
      (pss_cons (ps_if (pt_val (pe_meth (pv 0) T.cl m1 G1 (hr.mono (by decide)) b1 .nil pass0 (pa_cons pe_str pa_nil)))
        (pss_one (ps_set (i := 1) scRepS.nd rfl (Or.inl rfl) (pe_meth0 (pv 0) T.cl m2 G2 hr b2 .nil (passes_call (takes_of rfl rfl rfl rfl) (fun _ _ _ _ h => h)))))
        (pss_one (ps_expr (pe_meth (pv 0) T.cl m3 G3 (hr.mono (by decide)) b3 .nil (passes_call (takes_of rfl rfl rfl rfl) (fun _ _ _ _ h => h)) (by exact (pa_cons pe_str pa_nil))))))
      (pss_one (ps_expr (pe_meth (pe_ix ix_list (pe_fld (pv 0) rfl) (pe_un un_neg pe_int) (fun _ _ => rfl)) TB.cl m4 G4 (hr.mono (by decide)) b4 .nil pass0 (pa_cons (pv 1) pa_nil)))))), ?_⟩)
  · unfold spRepS at h
    obtain ⟨_, _, _, _, _, _, _, _, _, _, _, _, rfl, _⟩ := h
    rfl
  unfold spRepS at h
  obtain ⟨a, dx, ag, an, ab, g, ts, bs, st, fr, frs, c, rfl, h, hf, hc, hrep, hQ⟩ := h
  have hlt := lt_of_some hc
  have sk := h.sk
  rw [hf] at sk
  cases bs with
  | nil => exact sk.elim
  | cons b bs =>
    obtain ⟨⟨⟨dxb, hb⟩, hne⟩, hnb, hs⟩ := sk
    refine ⟨_, rfl, a, C, dx, _, _, rfl, h.rd.1, T.cl, T.nB, rF_brackets, _, rfl, ab, _, _, _, rfl, rfl, h.lastB, atI_last _ _, b, CB, dxb, _, _, rfl, hb, TB.cl, TB.nL, bF_last, rfl, _, rfl, ?_⟩
    unfold repStep at hQ
    by_cases hl : fr.last = true
    · rw [if_pos hl] at hQ
      have efl : flast fr = some (((fr.items.getLast?.getD .nothing).size : Nat) : Int) := if_pos hl
      rw [efl]
      refine if_false_of rfl ?_
      -- the last item
      obtain ⟨init, x0, hit⟩ : ∃ init x0, fr.items = init ++ [x0] := ⟨fr.items.dropLast, _, (List.dropLast_concat_getLast (hne.1 hl)).symm⟩
      have hx0 : fr.items.getLast?.getD .nothing = x0 := by rw [hit]; simp
      rw [hx0] at hQ efl
      rw [efl] at hb
      have hrg := rep_gen (a := x0) (p := st.p) (r := g.drop (st.p + 1)) hrep
      rw [← drop_cons hc] at hrg
      -- behind both ways
      have tail : ∀ (m : Nat) (n : Option Nat) (q : Nat) (H3 : Hp), repP x0 st.p (g.drop st.p) = .ok (.rep x0 m n, g.drop q, q) → timesOf (.rep .nothing m n) ≤ 20 → q ≤ g.length → RAt C H3 a dx ag q an ab → Kept H H3 a →
          tDrop (tMeth CB "repeat_atom" (spBRep CB) [] E0 (tOp (rIxL K) (tFld K (tVar 0) "brackets") (tUn (rU fun i => V.int (-i)) (tC (V.int 1)))) (tCons (tVar 1) tNil)) { nx := fun _ H' => Q .non H', rt := Q }
            [some (.ref a), some (.int ((timesOf (.rep .nothing m n) : Nat) : Int))] H3 := by
        intro m n q H3 e h20 hql r3 k3
        rw [e] at hQ
        have h3 := h.go r3 k3 hql
        have hb3 : BAt CB H3 b dxb (fclose fr) ((fsize fr : Nat) : Int) (some ((x0.size : Nat) : Int)) := k3 _ _ hb (rd_ne_b h.rd.1 hb).symm
        refine ⟨_, rfl, a, C, dx, _, _, rfl, h3.rd.1, T.cl, T.nB, rF_brackets, _, rfl, ab, _, _, _, rfl, rfl, h3.lastB, atI_last _ _, b, dxb, _, rfl, hb3, bF_no (by decide +kernel), _, rfl, ?_⟩
        refine brep_use hb3 (by omega) (by omega) fun H4 hb4 k4 => ?_
        have hf3 : ({ st with p := q, b := g.drop q } : Mach.St).frs = fr :: frs := hf
        refine hQ H4 ts (b :: bs) (RS.top h3 hf3 (fr' := fr.swap (.rep x0 m n)) (dxb := dxb) ?_ (fun e => nomatch e) rfl k4)
        have esz : ((fsize fr : Nat) : Int) + (((timesOf (.rep .nothing m n) : Nat) : Int) - 1) * ((x0.size : Nat) : Int) = ((fsize (fr.swap (.rep x0 m n)) : Nat) : Int) := by
          unfold fsize Mach.Fr.swap
          simp only [hit, List.dropLast_concat, List.map_append, List.sum_append, List.map_singleton, List.sum_singleton, rep_size]
          rw [Int.sub_mul, Int.one_mul]
          push_cast
          omega
        rw [esz] at hb4
        exact hb4
      refine ⟨_, rfl, a, dx, _, rfl, h.rd.1, rF_no (by decide +kernel), ?_⟩
      refine at_use h.rd (by decide +kernel) fun H1 s1 => ?_
      have h1 := h.same s1
      have k1 : Kept H H1 a := Kept.of_same s1
      refine ⟨_, rfl, ?_⟩
      rw [isAt_some hc, at_sign (n := 123) (by decide +kernel)]
      by_cases c123 : c = 123
      · subst c123
        refine if_true_of rfl ?_
        refine ⟨_, rfl, a, dx, _, rfl, h1.rd.1, rF_no (by decide +kernel), ?_⟩
        refine braces_use h1.rd hc ?_
        unfold repE
        cases e : repP .nothing st.p (g.drop st.p) with
        | error x =>
          rw [e] at hrg
          dsimp only at hrg
          rw [hrg] at hQ
          exact hQ
        | ok y =>
          obtain ⟨x, s, q⟩ := y
          rw [e] at hrg
          obtain ⟨m, n, rfl, e2, h20⟩ := hrg
          obtain ⟨hs2, hql⟩ := repP_drop e (Nat.le_of_lt hlt)
          rw [hs2] at e2
          intro H3 r3 k3
          exact tail m n q H3 e2 h20 hql r3 (k1.trans k3)
      · refine if_false_of (decide_eq_false c123) ?_
        refine ⟨_, rfl, a, dx, _, rfl, h1.rd.1, rF_no (by decide +kernel), ?_⟩
        refine take_use h1.rd ?_
        have h3c : c = 42 ∨ c = 43 ∨ c = 63 := by
          simp only [Mach.isRep, Bool.or_eq_true, beq_iff_eq] at hrep
          rcases hrep with ((h | h) | h) | h
          · exact .inl h
          · exact .inr (.inl h)
          · exact .inr (.inr h)
          · exact absurd h c123
        rw [takeE_yes hc (by rcases h3c with h | h | h <;> subst h <;> decide +kernel)]
        intro H3 r3 k3
        rcases h3c with hh | hh | hh
        · subst hh
          exact tail 0 none (st.p + 1) H3 (by rw [drop_cons hc]; rfl) (by decide) (by omega) r3 (k1.trans k3)
        · subst hh
          exact tail 1 none (st.p + 1) H3 (by rw [drop_cons hc]; rfl) (by decide) (by omega) r3 (k1.trans k3)
        · subst hh
          exact tail 0 (some 1) (st.p + 1) H3 (by rw [drop_cons hc]; rfl) (by decide) (by omega) r3 (k1.trans k3)
    · rw [if_neg hl] at hQ
      have efl : flast fr = none := if_neg hl
      rw [efl]
      have hQ' : Out CF ⟨2, st.p⟩ E := hQ
      exact if_true_of rfl ⟨_, rfl, a, C, dx, _, _, rfl, h.rd.1, T.cl, T.nP, rF_place, _, _, rfl, fun d hd => hQ' d _ upd_same⟩
end
end Pat
end

section
namespace Pat
open PySem PySem.Spec PyProof.Rows L2
open PySem.FaultX (FaultTxt)
open PatUtf (Fault)
open PatWords (Pat repP timesP Name)
open Mach (Fr)
def closeStep (st : Mach.St) (g : List UInt8) (fr : Fr) (frs : List Fr) (c : UInt8) : Except Fault Mach.St := if fr.close = [c] then (match frs with
    | [] => .error ⟨2, st.p⟩
    | gg :: gs => .ok ⟨st.p + 1, g.drop (st.p + 1), st.ns, gg.push fr.atom :: gs⟩) else .error ⟨2, st.p⟩
theorem cds_close (fr : Fr) : cds (fclose fr) = fr.close.map (·.toNat) := by
  unfold cds fclose
  rfl
theorem close_has {fr : Fr} {c : UInt8} (h : fr.close.length ≤ 1) : (cds (fclose fr)).contains c.toNat = decide (fr.close = [c]) := by
  rw [cds_close]
  cases e : fr.close with
  | nil => rfl
  | cons d l =>
    cases l with
    | nil =>
      by_cases hd : d = c
      · subst hd
        simp
      · have h2 : ¬ d.toNat = c.toNat := fun x => hd (UInt8.toNat_inj.mp x)
        have h3 : ¬ c.toNat = d.toNat := fun x => h2 x.symm
        simp [hd, h3]
    | cons x l =>
      rw [e] at h
      simp at h
section
variable {P : Program} {w : World} {K : PySem.W.Frag} {mg : Str → Option Value} {base : Heap} {C CB CF fI : Addr} {H : Hp} {a dx ag an ab : Addr} {g : List UInt8} {ts bs : List Addr} {st : Mach.St} {Q : VK} {E : XK}
@[irreducible] def spClose (K : PySem.W.Frag) (C CB CF : Addr) : Sp := fun vs H Q E => ∃ (a dx ag an ab : Addr) (g : List UInt8) (ts bs : List Addr) (st : Mach.St) (fr : Fr) (frs : List Fr) (c : UInt8), vs = [.ref a] ∧ RS K C CB H a dx ag an ab g ts bs st ∧ st.frs = fr :: frs ∧
  g[st.p]? = some c ∧ StepRet K C CB CF a dx ag an ab g Q E (closeStep st g fr frs c)
theorem close_use {fr : Fr} {frs : List Fr} {c : UInt8} (h : RS K C CB H a dx ag an ab g ts bs st) (hf : st.frs = fr :: frs) (hc : g[st.p]? = some c) (r : StepRet K C CB CF a dx ag an ab g Q E (closeStep st g fr frs c)) : spClose K C CB CF [.ref a] H Q E := by
  unfold spClose
  exact ⟨a, dx, ag, an, ab, g, ts, bs, st, fr, frs, c, rfl, h, hf, hc, r⟩
theorem badd_use {b dxb : Addr} {z : Str} {n m : Int} {l : Option Int} (hb : BAt CB H b dxb z n l) (r : ∀ H', BAt CB H' b dxb z (n + m) (some m) → Kept H H' b → Q .non H') : spBAdd CB [.ref b, .int m] H Q E := by
  unfold spBAdd
  exact ⟨b, dxb, z, n, m, l, rfl, hb, r⟩
theorem bend_use {b dxb : Addr} {z : Str} {n : Int} {l : Option Int} (hb : BAt CB H b dxb z n l) (r : ∀ H', BAt CB H' b dxb z n none → Kept H H' b → Q .non H') : spBEnd CB [.ref b] H Q E := by
  unfold spBEnd
  exact ⟨b, dxb, z, n, l, rfl, hb, r⟩
theorem scClose : FnScope ["self", "closed"] ["self"] (defScope (sR 16)) := ⟨rfl, rfl, rfl, by decide +kernel, rfl, by decide +kernel, by decide +kernel⟩
theorem ok_close {f : Addr} {fd : FuncData} (F : Fun K "take_closing" "Reader.take_closing" (sR 16) f fd) (T : Txt K mg C CF fI) (TB : TxB K CB)
    (M1 : MOk P w K mg base (L2.CX P w) C 3 "take" ["self", "signs"] (spTake K C CF)) (M2 : MOk P w K mg base CX0 CB 1 "add_atom" ["self", "atoms"] (spBAdd CB)) :
    FnOk P w K mg base (L2.CX P w) 4 f fd ["self"] (spClose K C CB CF) := by
  obtain ⟨f1, fd1, m1, b1, G1⟩ := M1
  obtain ⟨f2, fd2, m2, b2, G2⟩ := M2
  refine F.okX scClose (fun vs H Q E h => ?_) (fun cdv A outer s H vs Q E hr h => ⟨_, pss_cons (ps_expr (pe_meth (pv 0) T.cl m1 G1 hr b1 .nil (passes_call (takes_of rfl rfl rfl rfl) (fun _ _ _ _ h => h)) (by exact (pa_cons (pe_fld (pe_ix ix_list (pe_fld (pv 0) rfl) (pe_un un_neg pe_int) (fun _ _ => rfl)) rfl) pa_nil))))
      (pss_cons (ps_set (i := 1) scClose.nd rfl (Or.inl rfl) (pe_bm0 PySem.F.plainAttrs_list PySem.F.slot_list_pop PySem.F.type_list_pop mt_pop (pe_fld (pv 0) rfl)))
      (pss_one (ps_expr (pe_meth (pe_ix ix_list (pe_fld (pv 0) rfl) (pe_un un_neg pe_int) (fun _ _ => rfl)) TB.cl m2 G2 (hr.mono (by decide)) b2 .nil pass0 (by exact (pa_cons (pe_fld (pv 1) rfl) pa_nil)))))), ?_⟩)
  · unfold spClose at h
    obtain ⟨_, _, _, _, _, _, _, _, _, _, _, _, rfl, _⟩ := h
    rfl
  unfold spClose at h
  obtain ⟨a, dx, ag, an, ab, g, ts, bs, st, fr, frs, c, rfl, h, hf, hc, hQ⟩ := h
  have hlt := lt_of_some hc
  have sk := h.sk
  rw [hf] at sk
  cases bs with
  | nil => exact sk.elim
  | cons b bs =>
    obtain ⟨⟨⟨dxb, hb⟩, hne, hcl, hout⟩, hnb, hs⟩ := sk
    refine ⟨_, rfl, a, dx, _, rfl, h.rd.1, rF_no (by decide +kernel), _, rfl, a, C, dx, _, _, rfl, h.rd.1, T.cl, T.nB, rF_brackets, _, rfl, ab, _, _, _, rfl, rfl, h.lastB, atI_last _ _, b, CB, dxb, _, _, rfl, hb, TB.cl, TB.nC, bF_closing, ?_⟩
    refine take_use h.rd ?_
    unfold closeStep at hQ
    by_cases hcc : fr.close = [c]
    · rw [if_pos hcc] at hQ
      rw [takeE_yes hc (by rw [close_has hcl]; exact decide_eq_true hcc)]
      intro H1 r1 k1
      have h1 := h.go r1 k1 (by omega)
      cases frs with
      | nil =>
        rw [hout rfl] at hcc
        cases hcc
      | cons gg gs =>
        cases bs with
        | nil => exact hs.elim
        | cons b' bs' =>
          obtain ⟨⟨⟨dxb', hb'⟩, hne', hcl', hout'⟩, hnb', hs'⟩ := hs
          have hQ' : ∀ H' ts' bs'', RS K C CB H' a dx ag an ab g ts' bs'' ⟨st.p + 1, g.drop (st.p + 1), st.ns, gg.push fr.atom :: gs⟩ → Q .non H' := hQ
          have ebl : H1 ab = some (.lst (((b' :: bs').reverse.map V.ref) ++ [V.ref b])) := by
            have e := h1.bl
            rw [List.reverse_cons, List.map_append] at e
            exact e
          refine ⟨_, rfl, a, C, dx, _, _, rfl, h1.rd.1, T.cl, T.nB, rF_brackets, .inl ⟨rfl, _, .inl (.inl ebl)⟩, ab, _, V.ref b, rfl, rfl, ebl, by simp, ?_⟩
          -- popped
          have hdl : (((b' :: bs').reverse.map V.ref) ++ [V.ref b]).dropLast = (b' :: bs').reverse.map V.ref := List.dropLast_concat
          rw [hdl]
          have sk1 := h1.sk
          have hfe : ({ st with p := st.p + 1, b := g.drop (st.p + 1) } : Mach.St).frs = fr :: gg :: gs := hf
          rw [hfe] at sk1
          have hfl1 := h1.flen
          rw [hfe] at hfl1
          obtain ⟨⟨⟨dxb1, hb1⟩, _⟩, _, hs1⟩ := sk1
          have h2 := h1.pile hs1 (Nat.le_of_succ_le hfl1)
          have hb2 : BAt CB (upd H1 ab (.lst ((b' :: bs').reverse.map V.ref))) b dxb1 (fclose fr) ((fsize fr : Nat) : Int) (flast fr) := (upd_ne (ne_of hb1 ebl (by intro z; cases z))).trans hb1
          have sk2 := h2.sk
          obtain ⟨⟨⟨dxb2, hb2'⟩, hne2, _⟩, _, _⟩ := sk2
          refine ⟨_, rfl, a, C, dx, _, _, rfl, h2.rd.1, T.cl, T.nB, rF_brackets, _, rfl, ab, _, _, _, rfl, rfl, h2.lastB, atI_last _ _, b', dxb2, _, rfl, hb2', bF_no (by decide +kernel), _, rfl, b, CB, dxb1, _, _, rfl, hb2, TB.cl, TB.nA, bF_atoms, ?_⟩
          refine badd_use hb2' fun H3 hb3 k3 => ?_
          refine hQ' H3 ts (b' :: bs') (RS.top h2 rfl (fr' := gg.push fr.atom) (dxb := dxb2) ?_ (fun _ => by simp [Mach.Fr.push]) rfl k3)
          have e1 : fsize (gg.push fr.atom) = fsize gg + fsize fr := by rw [push_size, atom_size]
          rw [e1, push_last, atom_size]
          exact hb3
    · rw [if_neg hcc] at hQ
      rw [takeE_no hc (by rw [close_has hcl]; exact decide_eq_false hcc)]
      exact hQ
end
end Pat
end

section
namespace Pat
open PySem PySem.Spec PyProof.Rows L2
open PySem.FaultX (FaultTxt)
open PatUtf (Fault)
open PatWords (Pat repP timesP Name)
open Mach (Fr)
/-! ### lists of bytes as data -/
def gd (n : List UInt8) : List PyData := n.map fun c => PyData.int (c.toNat : Nat)
theorem dp_ints {K : PySem.W.Frag} {H : Hp} : ∀ n : List UInt8, DpAll K H (gv n) (gd n)
  | [] => .nil
  | c :: n => .cons (.int _) (dp_ints n)
theorem gd_eqv : ∀ x y : List UInt8, PyData.eqvAll (gd x) (gd y) = (x == y)
  | [], [] => by simp [gd, PyData.eqvAll]
  | [], _ :: _ => by simp [gd, PyData.eqvAll]
  | _ :: _, [] => by simp [gd, PyData.eqvAll]
  | c :: x, d :: y => by
    have ih := gd_eqv x y
    have e1 : PyData.eqvAll (gd (c :: x)) (gd (d :: y)) = (PyData.eqv (.int (c.toNat : Nat)) (.int (d.toNat : Nat)) && PyData.eqvAll (gd x) (gd y)) := by
      show PyData.eqvAll (_ :: gd x) (_ :: gd y) = _
      rw [PyData.eqvAll]
    rw [e1, ih]
    have e2 : PyData.eqv (.int (c.toNat : Nat)) (.int (d.toNat : Nat)) = (c == d) := by
      rw [PyData.eqv]
      by_cases h : c = d
      · subst h
        simp
      · have h2 : ¬ c.toNat = d.toNat := fun z => h (UInt8.toNat_inj.mp z)
        have h3 : (c == d) = false := by simpa using h
        rw [h3]
        cases e : (((c.toNat : Nat) : Int) == ((d.toNat : Nat) : Int)) with
        | false => rfl
        | true => exact absurd (Int.ofNat.inj (beq_iff_eq.mp e)) h2
    rw [e2]
    rfl
theorem gd_lay : ∀ n : List UInt8, PyData.canLayAll0 (gd n) = true
  | [] => by simp [gd, PyData.canLayAll0]
  | c :: n => by
    show PyData.canLayAll0 (_ :: gd n) = true
    rw [PyData.canLayAll0, gd_lay n, PyData.canLay0]
    rfl
theorem gd_depth : ∀ n : List UInt8, PyData.depthAll (gd n) = 0
  | [] => by simp [gd, PyData.depthAll]
  | c :: n => by
    show PyData.depthAll (_ :: gd n) = 0
    rw [PyData.depthAll, gd_depth n, PyData.depth]
    rfl
theorem gd_shaped (n : List UInt8) : SeqAt.shaped (.list (gd n)) = true := by
  unfold SeqAt.shaped
  rw [PyData.canLay0, gd_lay, PyData.depth, gd_depth]
  rfl
theorem gds_lay : ∀ l : List (List UInt8), PyData.canLayAll0 (l.map fun n => PyData.list (gd n)) = true ∧ PyData.depthAll (l.map fun n => PyData.list (gd n)) ≤ 1
  | [] => by simp [PyData.canLayAll0, PyData.depthAll]
  | n :: l => by
    obtain ⟨h1, h2⟩ := gds_lay l
    show PyData.canLayAll0 (_ :: l.map _) = true ∧ PyData.depthAll (_ :: l.map _) ≤ 1
    rw [PyData.canLayAll0, h1, PyData.canLay0, gd_lay, PyData.depthAll, PyData.depth, gd_depth]
    exact ⟨rfl, by omega⟩
theorem gds_shaped (l : List (List UInt8)) : SeqAt.shaped (.list (l.map fun n => PyData.list (gd n))) = true := by
  obtain ⟨h1, h2⟩ := gds_lay l
  unfold SeqAt.shaped
  rw [PyData.canLay0, h1, PyData.depth, Bool.true_and]
  exact decide_eq_true (by omega)
theorem cut_gv {g : List UInt8} {p q : Nat} (h : p ≤ q) : cutV (gv g) (some ((p : Nat) : Int)) (some ((q : Nat) : Int)) = gv ((g.drop p).take (q - p)) := by
  unfold cutV
  rw [HT.sIx_nat, HT.sIx_nat, gv_len]
  unfold gv
  rw [List.map_take, List.map_drop]
  by_cases hp : p ≤ g.length
  · rw [Nat.min_eq_left hp]
    by_cases hq : q ≤ g.length
    · rw [Nat.min_eq_left hq]
    · rw [Nat.min_eq_right (by omega), List.take_of_length_le (by simp), List.take_of_length_le (by simp; omega)]
  · rw [Nat.min_eq_right (by omega), Nat.min_eq_right (by omega), List.drop_of_length_le (by simp), List.drop_of_length_le (by simp; omega)]
    simp
/-- new lists, each of a name's bytes -/
def Lss (H : Hp) (D : Addr) : List Addr → List Name → Prop
  | [], [] => True
  | p :: ps, n :: ns => (H p = some (.lst (gv n)) ∧ p ≠ D) ∧ Lss H D ps ns
  | _, _ => False
theorem Lss.keep {H H' : Hp} {D : Addr} (k : ∀ q o, q ≠ D → H q = some o → H' q = some o) : ∀ {ps : List Addr} {ns : List Name}, Lss H D ps ns → Lss H' D ps ns
  | [], [], _ => trivial
  | [], _ :: _, h => h.elim
  | _ :: _, [], h => h.elim
  | p :: ps, n :: ns, ⟨⟨h1, h2⟩, h3⟩ => ⟨⟨k _ _ h2 h1, h2⟩, Lss.keep k h3⟩
theorem Lss.snoc {H : Hp} {D p : Addr} {n : Name} (hp : H p = some (.lst (gv n))) (hd : p ≠ D) : ∀ {ps : List Addr} {ns : List Name}, Lss H D ps ns → Lss H D (ps ++ [p]) (ns ++ [n])
  | [], [], _ => ⟨⟨hp, hd⟩, trivial⟩
  | [], _ :: _, h => h.elim
  | _ :: _, [], h => h.elim
  | _ :: ps, _ :: ns, ⟨h1, h2⟩ => ⟨h1, Lss.snoc hp hd h2⟩
theorem Lss.len {H : Hp} {D : Addr} : ∀ {ps : List Addr} {ns : List Name}, Lss H D ps ns → ps.length = ns.length
  | [], [], _ => rfl
  | [], _ :: _, h => h.elim
  | _ :: _, [], h => h.elim
  | _ :: ps, _ :: ns, ⟨_, h2⟩ => congrArg (· + 1) (Lss.len h2)
theorem Lss.dp {K : PySem.W.Frag} {H : Hp} {D : Addr} : ∀ {ps : List Addr} {ns : List Name}, Lss H D ps ns → DpAll K H (ps.map V.ref) (ns.map fun n => PyData.list (gd n))
  | [], [], _ => .nil
  | [], _ :: _, h => h.elim
  | _ :: _, [], h => h.elim
  | _ :: ps, _ :: ns, ⟨⟨h1, _⟩, h2⟩ => .cons (.lst (SqL.of h1) (dp_ints _)) (Lss.dp h2)
section
variable {P : Program} {w : World} {K : PySem.W.Frag} {mg : Str → Option Value} {base : Heap} {C CB CF fI : Addr} {H : Hp} {a dx ag an ab : Addr} {g : List UInt8} {ts bs : List Addr} {st : Mach.St} {Q : VK} {E : XK}
/-- a name is written behind the others -/
theorem RS.name (h : RS K C CB H a dx ag an ab g ts bs st) {t : Addr} {fp : Nat} {n : Name} (ht : SqT K H t [.int (fp : Nat), .int (n.length : Nat)]) (ok : NmOk g (fp, n)) (h16 : st.ns.length < 16) :
    RS K C CB (upd H an (.lst (ts.map V.ref ++ [V.ref t]))) a dx ag an ab g (ts ++ [t]) bs { st with ns := st.ns ++ [(fp, n)] } where
  rd := ⟨(upd_ne (ne_of h.rd.1 h.nl (by intro z; cases z))).trans h.rd.1, (h.nag.elim (fun n => sql_upd h.rd.2.1 n.2) fun all => all _), h.rd.2.2⟩
  b := h.b
  nl := upd_same.trans (by rw [List.map_append]; rfl)
  nm := Nms.snoc (sqt_upd ht h.nl) (Nms.map (fun t xs e => sqt_upd e h.nl) h.nm)
  ok := fun x m => by
    rcases List.mem_append.mp m with m | m
    · exact h.ok x m
    · rw [List.mem_singleton.mp m]
      exact ok
  bl := (upd_ne h.nab.symm).trans h.bl
  nab := h.nab
  nag := h.nag
  sk := Stk.kept Kept.upd h.sk fun m => by
    obtain ⟨_, _, _, _, hx⟩ := Stk.mem h.sk _ m
    exact absurd rfl (ne_of hx h.nl (by intro z; cases z))
  nlen := by
    show (st.ns ++ [(fp, n)]).length ≤ 16
    rw [List.length_append]
    exact h16
  flen := h.flen
theorem hu65 {k : Nat} {A : Around} (hr : Room k A) : A.units + 65 < cLine := by
  have := hr.un
  omega
/-! ### keep_name -/
def keepStep (g : List UInt8) (st : Mach.St) (fp : Nat) : Except Fault Mach.St :=
  if PatWords.NAMELEN < ((g.drop fp).take (st.p - fp)).length ∨ (st.ns.any fun (y : Nat × Name) => y.2 == (g.drop fp).take (st.p - fp)) = true ∨ PatWords.NAMES ≤ st.ns.length then .error ⟨4, fp⟩ else .ok { st with ns := st.ns ++ [(fp, (g.drop fp).take (st.p - fp))] }
@[irreducible] def spKeep (K : PySem.W.Frag) (C CB CF : Addr) : Sp := fun vs H Q E => ∃ (a dx ag an ab : Addr) (g : List UInt8) (ts bs : List Addr) (st : Mach.St) (fp : Nat), vs = [.ref a, .int fp] ∧ RS K C CB H a dx ag an ab g ts bs st ∧ fp ≤ st.p ∧ StepRet K C CB CF a dx ag an ab g Q E (keepStep g st fp)
theorem keep_use {fp : Nat} (h : RS K C CB H a dx ag an ab g ts bs st) (hfp : fp ≤ st.p) (r : StepRet K C CB CF a dx ag an ab g Q E (keepStep g st fp)) : spKeep K C CB CF [.ref a, .int (fp : Nat)] H Q E := by
  unfold spKeep
  exact ⟨a, dx, ag, an, ab, g, ts, bs, st, fp, rfl, h, hfp, r⟩
abbrev nmKeep : List Str := ["self", "first_place", "length", "taken", "known", "place", "size"]
theorem scKeep : FnScope nmKeep ["self", "first_place"] (defScope (sR 13)) := ⟨rfl, rfl, rfl, by decide +kernel, rfl, by decide +kernel, by decide +kernel⟩
theorem ok_keep {f : Addr} {fd : FuncData} (F : Fun K "keep_name" "Reader.keep_name" (sR 13) f fd) (T : Txt K mg C CF fI) (k32 : ∃ t, mg "LONGEST_NAME" = some (.int 32 t)) (k16 : ∃ t, mg "MOST_NAMES" = some (.int 16 t)) (k4 : ∃ t, mg "NAME_REFUSED" = some (.int 4 t)) :
    FnOk P w K mg base (L2.CX P w) 2 f fd ["self", "first_place"] (spKeep K C CB CF) := by
  refine F.okX scKeep (fun vs H Q E h => ?_) (fun cdv A outer s H vs Q E hr h => ⟨_, pss_cons (ps_set (i := 2) scKeep.nd rfl (Or.inl rfl) (pe_op op_sub (pe_fld (pv 0) rfl) (pv 1)))
      (pss_cons (ps_setLc (i := 3) (own := [("place", 5), ("size", 6)]) (g := gTup K 2 (gCons (gName 5) (gCons (gName 6) gNil))) (tt := tYes) (te := tSl (rSlL K) (tFld K (tVar 0) "given") (tPart (tVar 5)) (tPart (tOp (rI0 fun i j => .int (i + j)) (tVar 5) (tVar 6)))) rfl scKeep.nd rfl rfl (sw_true rfl rfl rfl (by decide +kernel)) (pi_list (pe_fld (pv 0) rfl)) (blkOk_by (N := nmKeep) (sc := defScope (sR 13)) (by decide +kernel))
          (fun _ _ _ _ _ => pg_tup rfl (pgs_cons (pg_name (i := 5) scKeep.nd rfl (Or.inl rfl)) (pgs_cons (pg_name (i := 6) scKeep.nd rfl (Or.inl rfl)) pgs_nil))) (fun _ _ _ _ _ => pts_nil)
          (fun _ _ _ _ _ => by exact (pe_slice sl_list (pe_fld (pv 0) rfl) (po_some (pv 5)) (po_some (pe_op op_add (pv 5) (pv 6))))))
      (pss_cons (ps_set (i := 4) scKeep.nd rfl (Or.inl rfl) (pe_cmpR (op_inD (hu65 hr)) (pe_slice sl_list (pe_fld (pv 0) rfl) (po_some (pv 1)) (po_some (pe_fld (pv 0) rfl))) (pv 3) (by rfl)))
      (pss_cons (ps_if (PW.pt (pw_or (pt_val (pv 4)) (pw_or (pt_cmpR op_gt (pv 2) (pe_gi k32) (nomark _)) (pw_or1 (pt_cmpR op_eq (pe_callB call_len_seq (by rfl) T.len PySem.boot_len (pa_cons (pv 3) pa_nil)) (pe_gi k16) (nomark _))))))
        (pss_one (ps_raiseFault rfl T.ft hr (takes_of rfl rfl rfl rfl) (by exact (pa_cons (pe_gi k4) (pa_cons (pv 1) pa_nil))))) pss_nil)
      (pss_one (ps_expr (pe_bm PySem.F.plainAttrs_list PySem.F.slot_list_append PySem.F.type_list_append mt_append (pe_fld (pv 0) rfl) (by exact (pa_cons (pe_tup (pa_cons (pv 1) (pa_cons (pv 2) pa_nil))) pa_nil)))))))), ?_⟩)
  · unfold spKeep at h
    obtain ⟨_, _, _, _, _, _, _, _, _, _, rfl, _⟩ := h
    rfl
  unfold spKeep at h
  obtain ⟨a, dx, ag, an, ab, g, ts, bs, st, fp, rfl, h, hfp, hQ⟩ := h
  refine ⟨_, rfl, a, C, dx, _, _, rfl, h.rd.1, T.cl, T.nP, rF_place, _, rfl, _, _, rfl, rfl, ?_⟩
  refine ⟨_, rfl, a, C, dx, _, _, rfl, h.rd.1, T.cl, T.nN, rF_names, an, rfl, ⟨_, SqL.of h.nl⟩, fun D hD => ?_⟩
  have htl := Nms.len h.nm
  refine lc_it walk_list (fun i H1 => Same H H1 ∧ ∃ ps, H1 D = some (.lst (ps.map V.ref)) ∧ Lss H1 D ps ((st.ns.take i).map Prod.snd)) ⟨Same.upd hD, [], upd_same, trivial⟩ (fun i H1 _ hp => SqL.of (hp.1 _ _ h.nl)) ?_ ?_
  · rintro i x H1 H2 hi ⟨s1, ps, hps, hl⟩ ⟨rfl, hx⟩
    rw [List.getElem?_map] at hx
    obtain ⟨t, ht, rfl⟩ : ∃ t, ts[i]? = some t ∧ x = V.ref t := by
      cases e : ts[i]? with
      | none => rw [e] at hx; cases hx
      | some t => rw [e] at hx; exact ⟨t, rfl, (Option.some.inj hx).symm⟩
    have h1 := h.same s1
    obtain ⟨n, hn, hsq⟩ := Nms.get h1.nm ht
    have hok : NmOk g n := h.ok n (List.mem_of_getElem? hn)
    refine ⟨t, _, rfl, hsq, rfl, _, _, rfl, _, _, rfl, rfl, rfl, ?_⟩
    unfold tYes
    dsimp only
    rw [if_pos rfl]
    refine ⟨_, rfl, a, C, dx, _, _, rfl, h1.rd.1, T.cl, T.nG, rF_given, _, rfl, _, rfl, _, rfl, _, rfl, _, _, rfl, rfl, _, rfl, ag, _, rfl, h1.rd.2.1, fun p hp => ?_⟩
    have hpD : p ≠ D := (ne_of_none hps hp).symm
    refine ⟨_, (upd_ne hpD.symm).trans hps, ?_, ?_⟩
    · rw [List.length_map, Lss.len hl, List.length_map, List.length_take]
      exact small1000 (by have := h.nlen; omega)
    · have ecut : cutV (gv g) (some ((n.1 : Nat) : Int)) (some (((n.1 : Nat) : Int) + ((n.2.length : Nat) : Int))) = gv n.2 := by
        have e1 : (((n.1 : Nat) : Int) + ((n.2.length : Nat) : Int)) = (((n.1 + n.2.length : Nat)) : Int) := by omega
        rw [e1, cut_gv (by omega), Nat.add_sub_cancel_left, ← hok]
      rw [ecut]
      refine ⟨fun b o e => ?_, ps ++ [p], ?_, ?_⟩
      · rw [upd_ne (ne_of_none e hD), upd_ne (ne_of_none (s1 b o e) hp)]
        exact s1 b o e
      · rw [upd_same, List.map_append]
        rfl
      · have e2 : (st.ns.take (i + 1)).map Prod.snd = (st.ns.take i).map Prod.snd ++ [n.2] := by
          rw [List.take_add_one, hn, List.map_append]
          rfl
        rw [e2]
        refine Lss.snoc ((upd_ne hpD).trans upd_same) hpD (Lss.keep (fun q o hq e => ?_) hl)
        rw [upd_ne hq, upd_ne (ne_of_none e hp)]
        exact e
  · rintro H1 ⟨s1, ps, hps, hl⟩
    have h1 := h.same s1
    have et : st.ns.take (ts.map V.ref).length = st.ns := List.take_of_length_le (by rw [List.length_map, htl]; exact Nat.le_refl _)
    rw [et] at hl
    have hlen : ((g.drop fp).take (st.p - fp)).length = st.p - fp := by
      rw [List.length_take, List.length_drop]
      have := h.rd.2.2.1
      omega
    refine ⟨_, rfl, a, C, dx, _, _, rfl, h1.rd.1, T.cl, T.nG, rF_given, _, rfl, _, rfl, _, rfl, a, C, dx, _, _, rfl, h1.rd.1, T.cl, T.nP, rF_place, _, rfl, ag, _, rfl, h1.rd.2.1, fun p hp => ?_⟩
    rw [cut_gv hfp]
    have s2 : Same H1 (upd H1 p (.lst (gv ((g.drop fp).take (st.p - fp))))) := Same.upd hp
    have h2 := h1.same s2
    have hpD : p ≠ D := (ne_of_none hps hp).symm
    have hl2 : Lss (upd H1 p (.lst (gv ((g.drop fp).take (st.p - fp))))) D ps (st.ns.map Prod.snd) := Lss.keep (fun q o _ e => s2 q o e) hl
    have hps2 := s2 _ _ hps
    refine ⟨_, rfl, _, _, .lst (SqL.of upd_same) (dp_ints _), .lst (SqL.of hps2) (Lss.dp hl2), gd_shaped _, gds_shaped _, ?_⟩
    have eany : (((st.ns.map Prod.snd).map fun n => PyData.list (gd n)).any fun z => PyData.eqv z (.list (gd ((g.drop fp).take (st.p - fp))))) = st.ns.any fun (y : Nat × Name) => y.2 == (g.drop fp).take (st.p - fp) := by
      rw [List.any_map, List.any_map]
      congr 1
      funext y
      show PyData.eqv (.list (gd y.2)) (.list (gd _)) = _
      rw [PyData.eqv, gd_eqv]
    rw [eany]
    unfold keepStep at hQ
    rw [hlen] at hQ
    refine ⟨_, rfl, _, rfl, ?_⟩
    by_cases c1 : (st.ns.any fun (y : Nat × Name) => y.2 == (g.drop fp).take (st.p - fp)) = true
    · rw [if_pos (.inr (.inl c1))] at hQ
      have hQ' : Out CF ⟨4, fp⟩ E := hQ
      exact if_true_of c1 (if_true_of rfl ⟨_, rfl, _, _, rfl, fun d hd => hQ' d _ upd_same⟩)
    · refine if_false_of (Bool.eq_false_iff.mpr c1) ⟨_, rfl, _, _, rfl, rfl, _, rfl, ?_⟩
      by_cases c2 : 32 < st.p - fp
      · rw [if_pos (.inl c2)] at hQ
        have hQ' : Out CF ⟨4, fp⟩ E := hQ
        exact if_true_of (decide_eq_true (by omega)) (if_true_of rfl ⟨_, rfl, _, _, rfl, fun d hd => hQ' d _ upd_same⟩)
      · refine if_false_of (decide_eq_false (by omega)) ⟨_, rfl, _, _, rfl, .inl (SqL.of hps2), rfl, _, rfl, ?_⟩
        have epl : (ps.map V.ref).length = st.ns.length := by rw [List.length_map, Lss.len hl2, List.length_map]
        have hn16 := h.nlen
        by_cases c3 : st.ns.length = 16
        · rw [if_pos (.inr (.inr (by unfold PatWords.NAMES; omega)))] at hQ
          have hQ' : Out CF ⟨4, fp⟩ E := hQ
          refine if_true_of ?_ ⟨_, rfl, _, _, rfl, fun d hd => hQ' d _ upd_same⟩
          rw [epl, c3]
          exact decide_eq_true rfl
        · rw [if_neg (by unfold PatWords.NAMES PatWords.NAMELEN; rintro (h | h | h); exact c2 h; exact c1 h; omega)] at hQ
          refine if_false_of (decide_eq_false fun e => c3 ?_) ?_
          · rw [epl] at e
            injection e with e
            omega
          have hQ' : ∀ H' ts' bs', RS K C CB H' a dx ag an ab g ts' bs' { st with ns := st.ns ++ [(fp, (g.drop fp).take (st.p - fp))] } → Q .non H' := hQ
          refine ⟨_, rfl, a, C, dx, _, _, rfl, h2.rd.1, T.cl, T.nN, rF_names, .inl ⟨rfl, _, SqL.of h2.nl⟩, _, rfl, _, rfl, by show 2 ≤ sizeLine; decide, fun t ht => ?_⟩
          have s3 := Same.upd (o := HO.tup [V.int (fp : Nat), V.int (((st.p : Nat) : Int) - ((fp : Nat) : Int))]) ht
          have h3 := h2.same s3
          have elen : (((st.p : Nat) : Int) - ((fp : Nat) : Int)) = (((g.drop fp).take (st.p - fp)).length : Int) := by
            rw [hlen]
            omega
          refine ⟨an, _, _, rfl, rfl, h3.nl, ?_, ?_⟩
          · rw [List.length_map, htl]
            exact small1000 (by omega)
          · refine hQ' _ _ _ (h3.name (t := t) (SqT.of (upd_same.trans (by rw [elen]))) ?_ (by omega))
            show (g.drop fp).take (st.p - fp) = (g.drop fp).take ((g.drop fp).take (st.p - fp)).length
            rw [hlen]
end
end Pat
end

section
namespace Pat
open PySem PySem.Spec PyProof.Rows L2
open PySem.FaultX (FaultTxt)
open PatUtf (Fault)
open PatWords (Pat repP timesP Name)
open Mach (Fr)
abbrev zSmall : Str := "abcdefghijklmnopqrstuvwxyz"
abbrev zName : Str := "abcdefghijklmnopqrstuvwxyz0123456789_"
theorem at_small (c : UInt8) : (cds zSmall).contains c.toNat = PatUtf.isSmall c :=
  beq_iff_eq.mp (u8_all (p := fun c => (cds zSmall).contains c.toNat == PatUtf.isSmall c) (by decide +kernel) c)
theorem at_name (c : UInt8) : (cds zName).contains c.toNat = PatUtf.inName c :=
  beq_iff_eq.mp (u8_all (p := fun c => (cds zName).contains c.toNat == PatUtf.inName c) (by decide +kernel) c)
theorem small_name {c : UInt8} (h : PatUtf.isSmall c = true) : PatUtf.inName c = true := by
  unfold PatUtf.inName
  rw [h]
  rfl
def nameStep (g : List UInt8) (st : Mach.St) : Except Fault Mach.St := match Mach.nameP st.ns st.p (g.drop st.p) with
  | .error e => .error e
  | .ok (n, _, q) => .ok ⟨q, g.drop q, st.ns ++ [(st.p, n)], st.frs⟩
/-- what is told of a name from its end on -/
theorem name_rest {g : List UInt8} {st : Mach.St} {d : UInt8} {q : Nat} (hd : g[st.p]? = some d) (hs : PatUtf.isSmall d = true) (hq : st.p < q) (hql : q ≤ g.length) (hlen : ((g.drop st.p).takeWhile PatUtf.inName).length = q - st.p) :
    nameStep g st = if q = g.length then .error ⟨1, q⟩ else match keepStep g { st with p := q, b := g.drop q } st.p with
      | .error e => .error e
      | .ok st' => match g[q]? with
        | none => .error ⟨1, q⟩
        | some e => if e ≠ 32 then .error ⟨2, q⟩ else .ok { st' with p := q + 1, b := g.drop (q + 1) } := by
  have hdl : (g.drop st.p).length = g.length - st.p := List.length_drop
  have hn : (g.drop st.p).takeWhile PatUtf.inName = (g.drop st.p).take (q - st.p) := by
    have := List.prefix_iff_eq_take.mp (List.takeWhile_prefix (p := PatUtf.inName) (l := g.drop st.p))
    rw [hlen] at this
    exact this
  have htl : ((g.drop st.p).take (q - st.p)).length = q - st.p := by rw [← hn]; exact hlen
  unfold nameStep Mach.nameP
  rw [drop_cons hd]
  dsimp only
  rw [← drop_cons hd, hn, htl, hdl, if_neg (by rw [hs]; decide)]
  have ep : st.p + (q - st.p) = q := by omega
  by_cases c1 : q = g.length
  · rw [if_pos c1, if_pos (by omega), ep]
  · rw [if_neg c1, if_neg (by omega)]
    unfold keepStep
    dsimp only
    rw [htl]
    by_cases c2 : PatWords.NAMELEN < q - st.p ∨ (st.ns.any fun (y : Nat × Name) => y.2 == (g.drop st.p).take (q - st.p)) = true ∨ PatWords.NAMES ≤ st.ns.length
    · rw [if_pos c2, if_pos c2]
    · rw [if_neg c2, if_neg c2, List.drop_drop, ep]
      dsimp only
      cases he : g[q]? with
      | none => rw [drop_none he]
      | some e =>
        rw [drop_cons he]
        dsimp only
        by_cases c3 : e ≠ 32
        · rw [if_pos c3, if_pos c3]
        · rw [if_neg c3, if_neg c3]
          have e2 : st.p + 1 + (q - st.p) = q + 1 := by omega
          dsimp only
          rw [e2]
section
variable {P : Program} {w : World} {K : PySem.W.Frag} {mg : Str → Option Value} {base : Heap} {C CB CF fI : Addr} {H : Hp} {a dx ag an ab : Addr} {g : List UInt8} {ts bs : List Addr} {st : Mach.St} {Q : VK} {E : XK}
/-! ### take_name -/
@[irreducible] def spName (K : PySem.W.Frag) (C CB CF : Addr) : Sp := fun vs H Q E => ∃ (a dx ag an ab : Addr) (g : List UInt8) (ts bs : List Addr) (st : Mach.St), vs = [.ref a] ∧ RS K C CB H a dx ag an ab g ts bs st ∧ StepRet K C CB CF a dx ag an ab g Q E (nameStep g st)
theorem name_use (h : RS K C CB H a dx ag an ab g ts bs st) (r : StepRet K C CB CF a dx ag an ab g Q E (nameStep g st)) : spName K C CB CF [.ref a] H Q E := by
  unfold spName
  exact ⟨a, dx, ag, an, ab, g, ts, bs, st, rfl, h, r⟩
theorem scName : FnScope ["self", "first_place"] ["self"] (defScope (sR 14)) := ⟨rfl, rfl, rfl, by decide +kernel, rfl, by decide +kernel, by decide +kernel⟩
theorem ok_name {f : Addr} {fd : FuncData} (F : Fun K "take_name" "Reader.take_name" (sR 14) f fd) (T : Txt K mg C CF fI) (hS1 : ∃ t, mg "SMALL_LETTERS" = some (.str zSmall t)) (hS2 : ∃ t, mg "NAME_SIGNS" = some (.str zName t))
    (M1 : MOk P w K mg base CX0 C 2 "at" ["self", "signs"] (spAt K C)) (M2 : MOk P w K mg base (L2.CX P w) C 3 "take" ["self", "signs"] (spTake K C CF))
    (M3 : MOk P w K mg base (L2.CX P w) C 2 "need_byte" ["self"] (spNeed K C CF)) (M4 : MOk P w K mg base (L2.CX P w) C 2 "keep_name" ["self", "first_place"] (spKeep K C CB CF)) :
    FnOk P w K mg base (L2.CX P w) 4 f fd ["self"] (spName K C CB CF) := by
  obtain ⟨f1, fd1, m1, b1, G1⟩ := M1
  obtain ⟨f2, fd2, m2, b2, G2⟩ := M2
  obtain ⟨f3, fd3, m3, b3, G3⟩ := M3
  obtain ⟨f4, fd4, m4, b4, G4⟩ := M4
  refine F.okX scName (fun vs H Q E h => ?_) (fun cdv A outer s H vs Q E hr h => ⟨_, pss_cons (ps_set (i := 1) scName.nd rfl (Or.inl rfl) (pe_fld (pv 0) rfl))
      (pss_cons (ps_expr (pe_meth (pv 0) T.cl m2 G2 hr b2 .nil (passes_call (takes_of rfl rfl rfl rfl) (fun _ _ _ _ h => h)) (by exact (pa_cons (pe_gs hS1) pa_nil))))
      (pss_cons (ps_while (passes_of rfl) (pt_val (pe_meth (pv 0) T.cl m1 G1 (hr.mono (by decide)) b1 .nil pass0 (by exact (pa_cons (pe_gs hS2) pa_nil)))) (pss_one (ps_expr (pe_meth (pv 0) T.cl m2 G2 hr b2 .nil (passes_call (takes_of rfl rfl rfl rfl) (fun _ _ _ _ h => h)) (by exact (pa_cons (pe_gs hS2) pa_nil))))))
      (pss_cons (ps_expr (pe_meth0 (pv 0) T.cl m3 G3 (hr.mono (by decide)) b3 .nil (passes_call (takes_of rfl rfl rfl rfl) (fun _ _ _ _ h => h))))
      (pss_cons (ps_expr (pe_meth (pv 0) T.cl m4 G4 (hr.mono (by decide)) b4 .nil (passes_call (takes_of rfl rfl rfl rfl) (fun _ _ _ _ h => h)) (by exact (pa_cons (pv 1) pa_nil))))
      (pss_one (ps_expr (pe_meth (pv 0) T.cl m2 G2 hr b2 .nil (passes_call (takes_of rfl rfl rfl rfl) (fun _ _ _ _ h => h)) (by exact (pa_cons pe_str pa_nil))))))))), ?_⟩)
  · unfold spName at h
    obtain ⟨_, _, _, _, _, _, _, _, _, rfl, _⟩ := h
    rfl
  unfold spName at h
  obtain ⟨a, dx, ag, an, ab, g, ts, bs, st, rfl, h, hQ⟩ := h
  refine ⟨_, rfl, a, C, dx, _, _, rfl, h.rd.1, T.cl, T.nP, rF_place, ?_⟩
  refine ⟨_, rfl, a, dx, _, rfl, h.rd.1, rF_no (by decide +kernel), ?_⟩
  refine take_use h.rd ?_
  cases hd : g[st.p]? with
  | none =>
    have e : nameStep g st = .error ⟨1, st.p⟩ := by unfold nameStep; rw [drop_none hd]; rfl
    rw [e] at hQ
    rw [takeE_end hd]
    exact hQ
  | some d =>
    have hlt := lt_of_some hd
    cases hs : PatUtf.isSmall d with
    | false =>
      have e : nameStep g st = .error ⟨2, st.p⟩ := by
        unfold nameStep Mach.nameP
        rw [drop_cons hd]
        dsimp only
        rw [if_pos hs]
      rw [e] at hQ
      rw [takeE_no hd (by rw [at_small]; exact hs)]
      exact hQ
    | true =>
      rw [takeE_yes hd (by rw [at_small]; exact hs)]
      intro H1 r1 k1
      have h1 := h.go r1 k1 (by omega)
      refine ⟨fun m σ H' => ∃ q, m = g.length - q ∧ σ = [some (.ref a), some (.int (st.p : Nat))] ∧ RS K C CB H' a dx ag an ab g ts bs { st with p := q, b := g.drop q } ∧ st.p < q ∧ ((g.drop st.p).takeWhile PatUtf.inName).length = q - st.p + ((g.drop q).takeWhile PatUtf.inName).length,
        ⟨_, st.p + 1, rfl, rfl, h1, by omega, ?_⟩, ?_⟩
      · rw [drop_cons hd, List.takeWhile_cons, if_pos (small_name hs), List.length_cons]
        omega
      rintro m σ H5 ⟨q, rfl, rfl, h5, hpq, hl⟩
      refine ⟨_, rfl, a, dx, _, rfl, h5.rd.1, rF_no (by decide +kernel), ?_⟩
      refine at_use h5.rd (by decide +kernel) fun H6 s6 => ?_
      have h6 := h5.same s6
      refine ⟨_, rfl, ?_⟩
      cases ea : isAt g q zName with
      | true =>
        obtain ⟨x, hx, hxn⟩ : ∃ x, g[q]? = some x ∧ PatUtf.inName x = true := by
          cases e : g[q]? with
          | none => rw [isAt_none e] at ea; cases ea
          | some x => rw [isAt_some e, at_name] at ea; exact ⟨x, rfl, ea⟩
        have hlq := lt_of_some hx
        refine if_true_of rfl ⟨fun σ' H' => σ' = [some (.ref a), some (.int (st.p : Nat))] ∧ RS K C CB H' a dx ag an ab g ts bs { st with p := q + 1, b := g.drop (q + 1) }, ?_, ?_⟩
        · rintro σ' H' ⟨rfl, h7⟩
          refine ⟨g.length - (q + 1), by omega, q + 1, rfl, rfl, h7, by omega, ?_⟩
          rw [hl, drop_cons hx, List.takeWhile_cons, if_pos hxn, List.length_cons]
          omega
        · refine ⟨_, rfl, a, dx, _, rfl, h6.rd.1, rF_no (by decide +kernel), ?_⟩
          refine take_use h6.rd ?_
          rw [takeE_yes hx (by rw [at_name]; exact hxn)]
          intro H7 r7 k7
          exact ⟨rfl, h6.go r7 k7 (by show q + 1 ≤ g.length; omega)⟩
      | false =>
        refine if_false_of rfl ?_
        have et : (g.drop q).takeWhile PatUtf.inName = [] := by
          cases e : g[q]? with
          | none => rw [drop_none e]; rfl
          | some x =>
            rw [isAt_some e, at_name] at ea
            rw [drop_cons e, List.takeWhile_cons, ea]
            rfl
        rw [et] at hl
        have hl' : ((g.drop st.p).takeWhile PatUtf.inName).length = q - st.p := hl
        have hql : q ≤ g.length := h6.rd.2.2.1
        rw [name_rest hd hs hpq hql hl'] at hQ
        refine ⟨_, rfl, a, dx, _, rfl, h6.rd.1, rF_no (by decide +kernel), ?_⟩
        refine need_use h6.rd (fun c1 => ?_) (fun c1 => ?_)
        · have c1' : q = g.length := c1
          rw [if_pos c1'] at hQ
          exact hQ
        · have c1' : q < g.length := c1
          rw [if_neg (by omega)] at hQ
          refine ⟨_, rfl, a, dx, _, rfl, h6.rd.1, rF_no (by decide +kernel), _, rfl, ?_⟩
          refine keep_use h6 (by show st.p ≤ q; omega) ?_
          cases ek : keepStep g { st with p := q, b := g.drop q } st.p with
          | error e => rw [ek] at hQ; exact hQ
          | ok st' =>
            rw [ek] at hQ
            dsimp only at hQ
            have est : st'.p = q ∧ st'.frs = st.frs := by
              unfold keepStep at ek
              split at ek
              · cases ek
              · cases ek; exact ⟨rfl, rfl⟩
            intro H7 ts7 bs7 h7
            refine ⟨_, rfl, a, dx, _, rfl, h7.rd.1, rF_no (by decide +kernel), ?_⟩
            refine take_use h7.rd ?_
            rw [est.1]
            have hx : g[q]? = some g[q] := List.getElem?_eq_getElem c1'
            rw [hx] at hQ
            dsimp only at hQ
            by_cases c3 : g[q] = 32
            · rw [if_neg (fun x => x c3)] at hQ
              rw [takeE_yes hx (by rw [c3]; decide +kernel)]
              intro H8 r8 k8
              exact hQ H8 ts7 bs7 (h7.go r8 k8 (by omega))
            · rw [if_pos c3] at hQ
              rw [takeE_no hx (by rw [at_sign (n := 32) (by decide +kernel)]; exact decide_eq_false c3)]
              exact hQ
end
end Pat
end

section
namespace Pat
open PySem PySem.Spec PyProof.Rows L2
open PySem.FaultX (FaultTxt)
open PatUtf (Fault)
open PatWords (Pat repP timesP partsP oneP atomP valueP Name)
open Mach (Fr)
theorem partsP_drop {g : List UInt8} : ∀ (f : Nat) (s : Bool) (acc : List (Nat × Nat)) (p : Nat) {l : List (Nat × Nat)} {r : List UInt8} {q : Nat}, partsP f s acc p (g.drop p) = .ok (l, r, q) → r = g.drop q ∧ q ≤ g.length
  | 0, s, acc, p, l, r, q, h => by
    rw [partsP] at h
    cases h
  | f + 1, s, acc, p, l, r, q, h => by
    by_cases c93 : g[p]? = some 93
    · have := lt_of_some c93
      rw [drop_cons c93, partsP] at h
      dsimp only at h
      rw [if_pos rfl] at h
      split at h
      · cases h; exact ⟨rfl, by omega⟩
      · cases h
    · have pp := parts_part (f := f) (s := s) (acc := acc) (g := g) (p := p) (fun c hc e => c93 (by rw [hc, e]))
      cases ep : partE g p with
      | error e =>
        rw [ep] at pp
        dsimp only at pp
        rw [pp] at h
        cases h
      | ok q1 =>
        rw [ep] at pp
        obtain ⟨acc1, pp⟩ := pp
        rw [pp] at h
        exact partsP_drop f true acc1 q1 h
theorem atom1_facts {g : List UInt8} {p q : Nat} {c : UInt8} {a : Pat} {ns : List (Nat × Name)} {s : List UInt8} (hc : g[p]? = some c) (h1 : c ≠ 40) (h2 : c ≠ 60) (h : atomP 1 0 [] p (g.drop p) = .ok (a, ns, s, q)) : a.size = 1 ∧ s = g.drop q ∧ q ≤ g.length := by
  have hlt := lt_of_some hc
  rw [drop_cons hc, atomP.eq_def 1] at h
  simp only [h1, h2, if_false] at h
  split at h; · cases h; exact ⟨rfl, rfl, by omega⟩
  split at h; · cases h; exact ⟨rfl, rfl, by omega⟩
  split at h; · cases h; exact ⟨rfl, rfl, by omega⟩
  split at h
  · cases hd : g[p + 1]? with
    | none => rw [drop_none hd] at h; cases h
    | some d =>
      have := lt_of_some hd
      rw [drop_cons hd] at h
      dsimp only at h
      split at h; · cases h; exact ⟨rfl, rfl, by omega⟩
      split at h; · cases h; exact ⟨rfl, rfl, by omega⟩
      split at h
      · cases h; exact ⟨rfl, rfl, by omega⟩
      · cases h
  split at h
  · cases hd : g[p + 1]? with
    | none => rw [drop_none hd] at h; cases h
    | some d =>
      rw [drop_cons hd] at h
      dsimp only at h
      split at h
      · rw [show p + 1 + 1 = p + 2 from rfl] at h
        cases e : partsP ((c :: d :: g.drop (p + 2)).length + 1) false [] (p + 2) (g.drop (p + 2)) with
        | error x => rw [e] at h; cases h
        | ok y =>
          obtain ⟨l, r, q'⟩ := y
          rw [e] at h
          cases h
          exact ⟨rfl, partsP_drop _ _ _ _ e⟩
      · rw [← drop_cons hd] at h
        cases e : partsP ((c :: g.drop (p + 1)).length + 1) false [] (p + 1) (g.drop (p + 1)) with
        | error x => rw [e] at h; cases h
        | ok y =>
          obtain ⟨l, r, q'⟩ := y
          rw [e] at h
          cases h
          exact ⟨rfl, partsP_drop _ _ _ _ e⟩
  split at h
  · cases h
  · rw [← drop_cons hc] at h
    cases e : valueP p (g.drop p) with
    | error x => rw [e] at h; cases h
    | ok y =>
      obtain ⟨v, r, q'⟩ := y
      rw [e] at h
      cases h
      obtain ⟨_, h3, h4⟩ := valueP_drop e
      exact ⟨rfl, h4, h3⟩
theorem nameP_drop {g : List UInt8} {ns : List (Nat × Name)} {p q : Nat} {n : Name} {s : List UInt8} (h : Mach.nameP ns p (g.drop p) = .ok (n, s, q)) : s = g.drop q := by
  unfold Mach.nameP at h
  cases hd : g[p]? with
  | none => rw [drop_none hd] at h; cases h
  | some d =>
    rw [drop_cons hd] at h
    dsimp only at h
    rw [← drop_cons hd] at h
    split at h; · cases h
    split at h; · cases h
    split at h; · cases h
    rw [List.drop_drop] at h
    cases he : g[p + ((g.drop p).takeWhile PatUtf.inName).length]? with
    | none => rw [drop_none he] at h; cases h
    | some e =>
      rw [drop_cons he] at h
      dsimp only at h
      split at h
      · cases h
      · cases h
        rw [show p + 1 + ((g.drop p).takeWhile PatUtf.inName).length = p + ((g.drop p).takeWhile PatUtf.inName).length + 1 by omega]
def openStep (g : List UInt8) (st : Mach.St) (frs : List Fr) (c : UInt8) : Except Fault Mach.St := if PatWords.OPENED ≤ frs.length then .error ⟨5, st.p⟩ else
  if c = 40 then .ok ⟨st.p + 1, g.drop (st.p + 1), st.ns, Mach.fresh [41] none :: st.frs⟩ else match Mach.nameP st.ns (st.p + 1) (g.drop (st.p + 1)) with
    | .error e => .error e
    | .ok (n, _, q) => .ok ⟨q, g.drop q, st.ns ++ [(st.p + 1, n)], Mach.fresh [62] (some n) :: st.frs⟩
section
variable {P : Program} {w : World} {K : PySem.W.Frag} {mg : Str → Option Value} {base : Heap} {C CB CF fI fB : Addr} {H : Hp} {a dx ag an ab : Addr} {g : List UInt8} {ts bs : List Addr} {st : Mach.St} {Q : VK} {E : XK}
theorem at_open (c : UInt8) : (cds "(<").contains c.toNat = (decide (c = 40) || decide (c = 60)) :=
  beq_iff_eq.mp (u8_all (p := fun c => (cds "(<").contains c.toNat == (decide (c = 40) || decide (c = 60))) (by decide +kernel) c)
theorem at_shut (c : UInt8) : (cds ")>").contains c.toNat = (decide (c = 41) || decide (c = 62)) :=
  beq_iff_eq.mp (u8_all (p := fun c => (cds ")>").contains c.toNat == (decide (c = 41) || decide (c = 62))) (by decide +kernel) c)
theorem at_rep (c : UInt8) : (cds "*+?{").contains c.toNat = Mach.isRep c :=
  beq_iff_eq.mp (u8_all (p := fun c => (cds "*+?{").contains c.toNat == Mach.isRep c) (by decide +kernel) c)
/-- Bracket(closing) -/
theorem binit_use {b dxb : Addr} {z : Str} (hb : H b = some (.ins CB dxb [])) (r : ∀ H', BAt CB H' b dxb z 0 none → Kept H H' b → Q .non H') : spBInit CB [.ref b, .str z] H Q E := by
  unfold spBInit
  exact ⟨b, dxb, z, rfl, hb, r⟩
theorem made_same {H1 H2 : Hp} {x dxx : Addr} {o o2 : HO} (hx : H1 x = none) (hd : H1 dxx = none) (k : Kept (upd (upd H1 dxx o) x o2) H2 x) : Same H1 H2 := fun b u e => by
  refine k b u ?_ (ne_of_none e hx)
  rw [upd_ne (ne_of_none e hx), upd_ne (ne_of_none e hd)]
  exact e
/-! ### take_opening -/
@[irreducible] def spOpen (K : PySem.W.Frag) (C CB CF : Addr) : Sp := fun vs H Q E => ∃ (a dx ag an ab : Addr) (g : List UInt8) (ts bs : List Addr) (st : Mach.St) (fr : Fr) (frs : List Fr) (c : UInt8), vs = [.ref a] ∧ RS K C CB H a dx ag an ab g ts bs st ∧ st.frs = fr :: frs ∧
  g[st.p]? = some c ∧ (c = 40 ∨ c = 60) ∧ StepRet K C CB CF a dx ag an ab g Q E (openStep g st frs c)
theorem open_use {fr : Fr} {frs : List Fr} {c : UInt8} (h : RS K C CB H a dx ag an ab g ts bs st) (hf : st.frs = fr :: frs) (hc : g[st.p]? = some c) (ho : c = 40 ∨ c = 60) (r : StepRet K C CB CF a dx ag an ab g Q E (openStep g st frs c)) : spOpen K C CB CF [.ref a] H Q E := by
  unfold spOpen
  exact ⟨a, dx, ag, an, ab, g, ts, bs, st, fr, frs, c, rfl, h, hf, hc, ho, r⟩
theorem scOpen : FnScope ["self", "closing"] ["self"] (defScope (sR 15)) := ⟨rfl, rfl, rfl, by decide +kernel, rfl, by decide +kernel, by decide +kernel⟩
theorem ok_open {f : Addr} {fd fdB : FuncData} (F : Fun K "take_opening" "Reader.take_opening" (sR 15) f fd) (T : Txt K mg C CF fI) (k40 : ∃ t, mg "MOST_OPEN" = some (.int 40 t)) (k5 : ∃ t, mg "TOO_MANY_OPEN" = some (.int 5 t))
    (MB : Mk K CB fB) (gB : mg "Bracket" = some (.ref CB)) (GB : FnOk P w K mg base CX0 1 fB fdB ["self", "closing"] (spBInit CB)) (bB : Binds K fdB ["self", "closing"] [])
    (M1 : MOk P w K mg base (L2.CX P w) C 3 "take" ["self", "signs"] (spTake K C CF)) (M2 : MOk P w K mg base (L2.CX P w) C 4 "take_name" ["self"] (spName K C CB CF)) :
    FnOk P w K mg base (L2.CX P w) 5 f fd ["self"] (spOpen K C CB CF) := by
  obtain ⟨f1, fd1, m1, b1, G1⟩ := M1
  obtain ⟨f2, fd2, m2, b2, G2⟩ := M2
  refine F.okX scOpen (fun vs H Q E h => ?_) (fun cdv A outer s H vs Q E hr h => ⟨_, pss_cons (ps_if (pt_cmpR op_eq (pe_op op_sub (pe_callB call_len_seq (by rfl) T.len PySem.boot_len (pa_cons (pe_fld (pv 0) rfl) pa_nil)) pe_int) (pe_gi k40) (nomark _))
        (pss_one (ps_raiseFault rfl T.ft hr (takes_of rfl rfl rfl rfl) (by exact (pa_cons (pe_gi k5) (pa_cons (pe_fld (pv 0) rfl) pa_nil))))) pss_nil)
      (pss_cons (ps_set (i := 1) scOpen.nd rfl (Or.inl rfl) pe_str)
      (pss_cons (ps_if (pt_cmpR op_eq (pe_meth (pv 0) T.cl m1 G1 (hr.mono (by decide)) b1 .nil (passes_call (takes_of rfl rfl rfl rfl) (fun _ _ _ _ h => h)) (by exact (pa_cons pe_str pa_nil))) pe_str (nomark _))
        (pss_cons (ps_expr (pe_meth0 (pv 0) T.cl m2 G2 hr b2 .nil (passes_call (takes_of rfl rfl rfl rfl) (fun _ _ _ _ h => h)))) (pss_one (ps_set (i := 1) scOpen.nd rfl (Or.inl rfl) pe_str))) pss_nil)
      (pss_one (ps_expr (pe_bm PySem.F.plainAttrs_list PySem.F.slot_list_append PySem.F.type_list_append mt_append (pe_fld (pv 0) rfl) (by exact (pa_cons (pe_make MB GB (hr.mono (by decide)) rfl gB bB .nil pass0 (pa_cons (pv 1) pa_nil)) pa_nil))))))), ?_⟩)
  · unfold spOpen at h
    obtain ⟨_, _, _, _, _, _, _, _, _, _, _, _, rfl, _⟩ := h
    rfl
  unfold spOpen at h
  obtain ⟨a, dx, ag, an, ab, g, ts, bs, st, fr, frs, c, rfl, h, hf, hc, ho, hQ⟩ := h
  have hlt := lt_of_some hc
  have hbl := Stk.len h.sk
  have hfl := h.flen
  rw [hf, List.length_cons] at hbl hfl
  have hbl2 : ((bs.reverse.map V.ref).length : Int) = (frs.length : Int) + 1 := by
    rw [List.length_map, List.length_reverse, hbl]
    rfl
  unfold openStep at hQ
  refine ⟨_, rfl, a, C, dx, _, _, rfl, h.rd.1, T.cl, T.nB, rF_brackets, ab, _, rfl, .inl (SqL.of h.bl), _, _, rfl, rfl, rfl, _, rfl, ?_⟩
  rw [hbl2]
  by_cases c40 : frs.length = 40
  · rw [if_pos (by unfold PatWords.OPENED; omega)] at hQ
    have hQ' : Out CF ⟨5, st.p⟩ E := hQ
    refine if_true_of ?_ ⟨_, rfl, a, C, dx, _, _, rfl, h.rd.1, T.cl, T.nP, rF_place, _, _, rfl, fun d hd => hQ' d _ upd_same⟩
    rw [c40]
    rfl
  · rw [if_neg (by unfold PatWords.OPENED; omega)] at hQ
    refine if_false_of (decide_eq_false fun e => c40 ?_) ?_
    · injection e with e
      omega
    -- the new bracket
    have tail : ∀ (z : Str) (fr' : Fr) (H3 : Hp) (ts3 bs3 : List Addr) (st3 : Mach.St), RS K C CB H3 a dx ag an ab g ts3 bs3 st3 → st3.frs = st.frs → fclose fr' = z → fsize fr' = 0 → flast fr' = none → fr'.last = false → fr'.close.length ≤ 1 →
        (∀ H' ts' bs', RS K C CB H' a dx ag an ab g ts' bs' { st3 with frs := fr' :: st.frs } → Q .non H') →
        tDrop (tBM K "list" rAppend (tFld K (tVar 0) "brackets") (tCons (tMake CB (spBInit CB) [] E0 (tCons (tVar 1) tNil)) tNil)) { nx := fun _ H' => Q .non H', rt := Q } [some (.ref a), some (.str z)] H3 := by
      intro z fr' H3 ts3 bs3 st3 h3 ef ez es el ella ecl hQ3
      refine ⟨_, rfl, a, C, dx, _, _, rfl, h3.rd.1, T.cl, T.nB, rF_brackets, .inl ⟨rfl, _, SqL.of h3.bl⟩, _, rfl, fun x dxx hx hdx hne => ?_⟩
      refine binit_use upd_same fun H4 hb4 k4 => ⟨rfl, ?_⟩
      have s4 := made_same hx hdx k4
      have h4 := h3.same s4
      have sk4 := h4.sk
      rw [ef] at sk4
      have hbl4 := Stk.len sk4
      rw [hf, List.length_cons] at hbl4
      refine ⟨ab, _, _, rfl, rfl, h4.bl, ?_, ?_⟩
      · rw [List.length_map, List.length_reverse, hbl4]
        exact small1000 (by omega)
      · have e5 : bs3.reverse.map V.ref ++ [V.ref x] = (x :: bs3).reverse.map V.ref := by
          rw [List.reverse_cons, List.map_append]
          rfl
        rw [e5]
        refine hQ3 _ _ _ (h4.pile (bs' := x :: bs3) (frs' := fr' :: st.frs) ⟨⟨⟨dxx, ?_⟩, fun e => (by rw [ella] at e; cases e), ecl, fun e => (by rw [hf] at e; cases e)⟩, fun m => ?_, sk4⟩ ?_)
        · rw [ez, es, el]
          exact hb4
        · obtain ⟨_, _, _, _, hy⟩ := Stk.mem h3.sk x m
          have hy' : H3 x = some _ := hy
          rw [hx] at hy'
          cases hy'
        · rw [hf, List.length_cons, List.length_cons]
          omega
    refine ⟨_, rfl, a, dx, _, rfl, h.rd.1, rF_no (by decide +kernel), ?_⟩
    refine take_use h.rd ?_
    rw [takeE_yes hc (by rw [at_open]; rcases ho with e | e <;> subst e <;> rfl)]
    intro H1 r1 k1
    have h1 := h.go r1 k1 (by omega)
    rcases ho with e | e
    · subst e
      rw [if_pos rfl] at hQ
      refine ⟨rfl, _, rfl, if_false_of (by decide +kernel) ?_⟩
      exact tail ")" (Mach.fresh [41] none) H1 ts bs _ h1 rfl (by decide +kernel) rfl rfl rfl (by decide) hQ
    · subst e
      rw [if_neg (by decide)] at hQ
      refine ⟨rfl, _, rfl, if_true_of (by decide +kernel) ?_⟩
      refine ⟨_, rfl, a, dx, _, rfl, h1.rd.1, rF_no (by decide +kernel), ?_⟩
      refine name_use h1 ?_
      unfold nameStep
      dsimp only
      cases en : Mach.nameP st.ns (st.p + 1) (g.drop (st.p + 1)) with
      | error x => rw [en] at hQ; exact hQ
      | ok y =>
        obtain ⟨n, s, q⟩ := y
        rw [en] at hQ
        intro H2 ts2 bs2 h2
        exact tail ">" (Mach.fresh [62] (some n)) H2 ts2 bs2 _ h2 rfl (by show (⟨(([62] : List UInt8).map (·.toNat)).toArray⟩ : Str) = ">"; decide +kernel) rfl rfl rfl (Nat.le_refl 1) hQ
end
end Pat
end

section
namespace Pat
open PySem PySem.Spec PyProof.Rows L2
open PySem.FaultX (FaultTxt)
open PatUtf (Fault)
open PatWords (Pat repP timesP partsP oneP atomP valueP Name)
open Mach (Fr)
section
variable {P : Program} {w : World} {K : PySem.W.Frag} {mg : Str → Option Value} {base : Heap} {C CB CF fI fB : Addr} {H : Hp} {a dx ag an ab : Addr} {g : List UInt8} {ts bs : List Addr} {st : Mach.St} {Q : VK} {E : XK}
/-! ### take_next -/
@[irreducible] def spNext (K : PySem.W.Frag) (C CB CF : Addr) : Sp := fun vs H Q E => ∃ (a dx ag an ab : Addr) (g : List UInt8) (ts bs : List Addr) (st : Mach.St) (fr : Fr) (frs : List Fr) (c : UInt8), vs = [.ref a] ∧ RS K C CB H a dx ag an ab g ts bs st ∧ st.frs = fr :: frs ∧
  g[st.p]? = some c ∧ StepRet K C CB CF a dx ag an ab g Q E (Mach.stepC st.p st.ns fr frs c (g.drop (st.p + 1)))
theorem next_use {fr : Fr} {frs : List Fr} {c : UInt8} (h : RS K C CB H a dx ag an ab g ts bs st) (hf : st.frs = fr :: frs) (hc : g[st.p]? = some c) (r : StepRet K C CB CF a dx ag an ab g Q E (Mach.stepC st.p st.ns fr frs c (g.drop (st.p + 1)))) : spNext K C CB CF [.ref a] H Q E := by
  unfold spNext
  exact ⟨a, dx, ag, an, ab, g, ts, bs, st, fr, frs, c, rfl, h, hf, hc, r⟩
theorem step_open {g : List UInt8} {st : Mach.St} {fr : Fr} {frs : List Fr} {c : UInt8} (hf : st.frs = fr :: frs) (h : c = 40 ∨ c = 60) : Mach.stepC st.p st.ns fr frs c (g.drop (st.p + 1)) = openStep g st frs c := by
  unfold Mach.stepC openStep
  rw [hf]
  rcases h with e | e
  · subst e
    rw [if_neg (by decide), if_pos rfl, if_pos rfl]
  · subst e
    rw [if_neg (by decide), if_neg (by decide), if_pos rfl]
    by_cases c1 : PatWords.OPENED ≤ frs.length
    · rw [if_pos c1, if_pos c1]
    · rw [if_neg c1, if_neg c1, if_neg (by decide)]
      cases e : Mach.nameP st.ns (st.p + 1) (g.drop (st.p + 1)) with
      | error x => rfl
      | ok y =>
        obtain ⟨n, s, q⟩ := y
        rw [nameP_drop e]
theorem step_close {g : List UInt8} {st : Mach.St} {fr : Fr} {frs : List Fr} {c : UInt8} (h : c = 41 ∨ c = 62) : Mach.stepC st.p st.ns fr frs c (g.drop (st.p + 1)) = closeStep st g fr frs c := by
  unfold Mach.stepC closeStep
  rcases h with e | e <;> subst e <;> rfl
theorem step_rep {g : List UInt8} {st : Mach.St} {fr : Fr} {frs : List Fr} {c : UInt8} (hc : g[st.p]? = some c) (h : Mach.isRep c = true) : Mach.stepC st.p st.ns fr frs c (g.drop (st.p + 1)) = repStep g st fr frs := by
  obtain ⟨n1, n2, n3, n4, n5⟩ := Mach.isRep_ne h
  unfold Mach.stepC repStep
  rw [drop_cons hc]
  simp only [n1, n2, n3, n4, n5, h, if_false, if_true, or_self]
  all_goals rfl
theorem scNext : FnScope ["self"] ["self"] (defScope (sR 17)) := ⟨rfl, rfl, rfl, by decide +kernel, rfl, by decide +kernel, by decide +kernel⟩
theorem at_bar (c : UInt8) : (cds "|").contains c.toNat = decide (c = 124) := at_sign (by decide +kernel) c
theorem ok_next {f : Addr} {fd : FuncData} (F : Fun K "take_next" "Reader.take_next" (sR 17) f fd) (T : Txt K mg C CF fI) (TB : TxB K CB)
    (M1 : MOk P w K mg base CX0 C 2 "at" ["self", "signs"] (spAt K C)) (M2 : MOk P w K mg base (L2.CX P w) C 3 "take" ["self", "signs"] (spTake K C CF))
    (M3 : MOk P w K mg base CX0 CB 1 "end_row" ["self"] (spBEnd CB)) (M4 : MOk P w K mg base (L2.CX P w) C 5 "take_opening" ["self"] (spOpen K C CB CF))
    (M5 : MOk P w K mg base (L2.CX P w) C 4 "take_closing" ["self"] (spClose K C CB CF)) (M6 : MOk P w K mg base (L2.CX P w) C 6 "take_repetition" ["self"] (spRepS K C CB CF))
    (M7 : MOk P w K mg base (L2.CX P w) C 8 "take_single_atom" ["self"] (spSingle K C CF)) (M8 : MOk P w K mg base CX0 CB 1 "add_atom" ["self", "atoms"] (spBAdd CB)) :
    FnOk P w K mg base (L2.CX P w) 9 f fd ["self"] (spNext K C CB CF) := by
  obtain ⟨f1, fd1, m1, b1, G1⟩ := M1
  obtain ⟨f2, fd2, m2, b2, G2⟩ := M2
  obtain ⟨f3, fd3, m3, b3, G3⟩ := M3
  obtain ⟨f4, fd4, m4, b4, G4⟩ := M4
  obtain ⟨f5, fd5, m5, b5, G5⟩ := M5
  obtain ⟨f6, fd6, m6, b6, G6⟩ := M6
  obtain ⟨f7, fd7, m7, b7, G7⟩ := M7
  obtain ⟨f8, fd8, m8, b8, G8⟩ := M8
  refine F.okX scNext (fun vs H Q E h => ?_) (fun cdv A outer s H vs Q E hr h => ⟨_, pss_one (ps_if (pt_val (pe_meth (pv 0) T.cl m1 G1 (hr.mono (by decide)) b1 .nil pass0 (pa_cons pe_str pa_nil)))
      (pss_cons (ps_expr (pe_meth (pv 0) T.cl m2 G2 (hr.mono (by decide)) b2 .nil (passes_call (takes_of rfl rfl rfl rfl) (fun _ _ _ _ h => h)) (by exact (pa_cons pe_str pa_nil))))
        (pss_one (ps_expr (pe_meth0 (pe_ix ix_list (pe_fld (pv 0) rfl) (pe_un un_neg pe_int) (fun _ _ => rfl)) TB.cl m3 G3 (hr.mono (by decide)) b3 .nil pass0))))
      (pss_one (ps_if (pt_val (pe_meth (pv 0) T.cl m1 G1 (hr.mono (by decide)) b1 .nil pass0 (pa_cons pe_str pa_nil)))
        (pss_one (ps_expr (pe_meth0 (pv 0) T.cl m4 G4 (hr.mono (by decide)) b4 .nil (passes_call (takes_of rfl rfl rfl rfl) (fun _ _ _ _ h => h)))))
        (pss_one (ps_if (pt_val (pe_meth (pv 0) T.cl m1 G1 (hr.mono (by decide)) b1 .nil pass0 (pa_cons pe_str pa_nil)))
          (pss_one (ps_expr (pe_meth0 (pv 0) T.cl m5 G5 (hr.mono (by decide)) b5 .nil (passes_call (takes_of rfl rfl rfl rfl) (fun _ _ _ _ h => h)))))
          (pss_one (ps_if (pt_val (pe_meth (pv 0) T.cl m1 G1 (hr.mono (by decide)) b1 .nil pass0 (pa_cons pe_str pa_nil)))
            (pss_one (ps_expr (pe_meth0 (pv 0) T.cl m6 G6 (hr.mono (by decide)) b6 .nil (passes_call (takes_of rfl rfl rfl rfl) (fun _ _ _ _ h => h)))))
            (pss_cons (ps_expr (pe_meth0 (pv 0) T.cl m7 G7 hr b7 .nil (passes_call (takes_of rfl rfl rfl rfl) (fun _ _ _ _ h => h))))
              (pss_one (ps_expr (pe_meth (pe_ix ix_list (pe_fld (pv 0) rfl) (pe_un un_neg pe_int) (fun _ _ => rfl)) TB.cl m8 G8 (hr.mono (by decide)) b8 .nil pass0 (by exact (pa_cons pe_int pa_nil))))))))))))), ?_⟩)
  · unfold spNext at h
    obtain ⟨_, _, _, _, _, _, _, _, _, _, _, _, rfl, _⟩ := h
    rfl
  unfold spNext at h
  obtain ⟨a, dx, ag, an, ab, g, ts, bs, st, fr, frs, c, rfl, h, hf, hc, hQ⟩ := h
  have hlt := lt_of_some hc
  refine ⟨_, rfl, a, dx, _, rfl, h.rd.1, rF_no (by decide +kernel), ?_⟩
  refine at_use h.rd (by decide +kernel) fun H1 s1 => ?_
  have h1 := h.same s1
  refine ⟨_, rfl, ?_⟩
  rw [isAt_some hc, at_bar]
  by_cases c1 : c = 124
  · refine if_true_of (decide_eq_true c1) ?_
    subst c1
    refine ⟨_, rfl, a, dx, _, rfl, h1.rd.1, rF_no (by decide +kernel), ?_⟩
    refine take_use h1.rd ?_
    rw [takeE_yes hc (by decide +kernel)]
    intro H2 r2 k2
    have h2 := h1.go r2 k2 (by omega)
    have sk2 := h2.sk
    have hf2 : ({ st with p := st.p + 1, b := g.drop (st.p + 1) } : Mach.St).frs = fr :: frs := hf
    rw [hf2] at sk2
    cases bs with
    | nil => exact sk2.elim
    | cons b bs =>
      obtain ⟨⟨⟨dxb, hb⟩, hne, hcl, hout⟩, hnb, hs⟩ := sk2
      refine ⟨_, rfl, a, C, dx, _, _, rfl, h2.rd.1, T.cl, T.nB, rF_brackets, _, rfl, ab, _, _, _, rfl, rfl, h2.lastB, atI_last _ _, b, dxb, _, rfl, hb, bF_no (by decide +kernel), ?_⟩
      refine bend_use hb fun H3 hb3 k3 => ?_
      have hQ' : ∀ H' ts' bs', RS K C CB H' a dx ag an ab g ts' bs' ⟨st.p + 1, g.drop (st.p + 1), st.ns, fr.bar :: frs⟩ → Q .non H' := hQ
      refine hQ' H3 ts (b :: bs) (RS.top h2 hf2 (fr' := fr.bar) (dxb := dxb) ?_ (fun e => nomatch e) rfl k3)
      rw [bar_size, bar_last]
      exact hb3
  refine if_false_of (decide_eq_false c1) ?_
  refine ⟨_, rfl, a, dx, _, rfl, h1.rd.1, rF_no (by decide +kernel), ?_⟩
  refine at_use h1.rd (by decide +kernel) fun H2 s2 => ?_
  have h2 := h1.same s2
  refine ⟨_, rfl, ?_⟩
  rw [isAt_some hc, at_open]
  by_cases c2 : c = 40 ∨ c = 60
  · refine if_true_of (by simpa using c2) ?_
    refine ⟨_, rfl, a, dx, _, rfl, h2.rd.1, rF_no (by decide +kernel), ?_⟩
    rw [step_open hf c2] at hQ
    exact open_use h2 hf hc c2 hQ
  refine if_false_of (by simpa using c2) ?_
  refine ⟨_, rfl, a, dx, _, rfl, h2.rd.1, rF_no (by decide +kernel), ?_⟩
  refine at_use h2.rd (by decide +kernel) fun H3 s3 => ?_
  have h3 := h2.same s3
  refine ⟨_, rfl, ?_⟩
  rw [isAt_some hc, at_shut]
  by_cases c3 : c = 41 ∨ c = 62
  · refine if_true_of (by simpa using c3) ?_
    refine ⟨_, rfl, a, dx, _, rfl, h3.rd.1, rF_no (by decide +kernel), ?_⟩
    rw [step_close c3] at hQ
    exact close_use h3 hf hc hQ
  refine if_false_of (by simpa using c3) ?_
  refine ⟨_, rfl, a, dx, _, rfl, h3.rd.1, rF_no (by decide +kernel), ?_⟩
  refine at_use h3.rd (by decide +kernel) fun H4 s4 => ?_
  have h4 := h3.same s4
  refine ⟨_, rfl, ?_⟩
  rw [isAt_some hc, at_rep]
  cases c4 : Mach.isRep c with
  | true =>
    refine if_true_of rfl ?_
    refine ⟨_, rfl, a, dx, _, rfl, h4.rd.1, rF_no (by decide +kernel), ?_⟩
    rw [step_rep hc c4] at hQ
    exact repS_use h4 hf hc c4 hQ
  | false =>
    refine if_false_of rfl ?_
    have n40 : c ≠ 40 := fun e => c2 (.inl e)
    have n60 : c ≠ 60 := fun e => c2 (.inr e)
    have hst : Mach.stepC st.p st.ns fr frs c (g.drop (st.p + 1)) = match atomP 1 0 [] st.p (g.drop st.p) with
        | .error e => .error e
        | .ok (x, _, s, q) => .ok ⟨q, s, st.ns, fr.push x :: frs⟩ := by
      unfold Mach.stepC
      rw [if_neg c1, if_neg n40, if_neg n60, if_neg c3, c4, if_neg Bool.false_ne_true, drop_cons hc]
      all_goals (cases atomP 1 0 [] st.p (c :: g.drop (st.p + 1)) <;> rfl)
    rw [hst] at hQ
    refine ⟨_, rfl, a, dx, _, rfl, h4.rd.1, rF_no (by decide +kernel), ?_⟩
    refine single_use h4.rd hc n40 n60 ?_
    unfold singE
    cases ea : atomP 1 0 [] st.p (g.drop st.p) with
    | error e => rw [ea] at hQ; exact hQ
    | ok y =>
      obtain ⟨x, ns0, s, q⟩ := y
      obtain ⟨hx1, hxs, hxq⟩ := atom1_facts hc n40 n60 ea
      subst hxs
      rw [ea] at hQ
      intro H5 r5 k5
      have h5 := h4.go r5 k5 hxq
      have sk5 := h5.sk
      have hf5 : ({ st with p := q, b := g.drop q } : Mach.St).frs = fr :: frs := hf
      rw [hf5] at sk5
      cases bs with
      | nil => exact sk5.elim
      | cons b bs =>
        obtain ⟨⟨⟨dxb, hb⟩, hne, hcl, hout⟩, hnb, hs⟩ := sk5
        refine ⟨_, rfl, a, C, dx, _, _, rfl, h5.rd.1, T.cl, T.nB, rF_brackets, _, rfl, ab, _, _, _, rfl, rfl, h5.lastB, atI_last _ _, b, dxb, _, rfl, hb, bF_no (by decide +kernel), ?_⟩
        refine badd_use hb fun H6 hb6 k6 => ?_
        have hQ' : ∀ H' ts' bs', RS K C CB H' a dx ag an ab g ts' bs' ⟨q, g.drop q, st.ns, fr.push x :: frs⟩ → Q .non H' := hQ
        refine hQ' H6 ts (b :: bs) (RS.top h5 hf5 (fr' := fr.push x) (dxb := dxb) ?_ (fun _ => by simp [Mach.Fr.push]) rfl k6)
        rw [push_size, push_last, hx1]
        exact hb6
/-! ### finish -/
@[irreducible] def spFin (K : PySem.W.Frag) (C CB CF : Addr) : Sp := fun vs H Q E => ∃ (a dx ag an ab : Addr) (g : List UInt8) (ts bs : List Addr) (st : Mach.St), vs = [.ref a] ∧ RS K C CB H a dx ag an ab g ts bs st ∧ st.frs ≠ [] ∧
  match Mach.finish st with
  | .error e => Out CF e E
  | .ok _ => Q .non H
theorem fin_use (h : RS K C CB H a dx ag an ab g ts bs st) (hne : st.frs ≠ []) (r : match Mach.finish st with
    | .error e => Out CF e E
    | .ok _ => Q .non H) : spFin K C CB CF [.ref a] H Q E := by
  unfold spFin
  exact ⟨a, dx, ag, an, ab, g, ts, bs, st, rfl, h, hne, r⟩
theorem scFin : FnScope ["self"] ["self"] (defScope (sR 18)) := ⟨rfl, rfl, rfl, by decide +kernel, rfl, by decide +kernel, by decide +kernel⟩
theorem ok_fin {f : Addr} {fd : FuncData} (F : Fun K "finish" "Reader.finish" (sR 18) f fd) (T : Txt K mg C CF fI) (TB : TxB K CB) (k200 : ∃ t, mg "MOST_ATOMS" = some (.int 200 t)) (k7 : ∃ t, mg "TOO_MANY_ATOMS" = some (.int 7 t)) :
    FnOk P w K mg base (L2.CX P w) 2 f fd ["self"] (spFin K C CB CF) := by
  refine F.okX scFin (fun vs H Q E h => ?_) (fun cdv A outer s H vs Q E hr h => ⟨_, pss_cons (ps_if (pt_cmpR op_gt (pe_callB call_len_seq (by rfl) T.len PySem.boot_len (pa_cons (pe_fld (pv 0) rfl) pa_nil)) pe_int (nomark _))
        (pss_one (ps_raiseFault rfl T.ft hr (takes_of rfl rfl rfl rfl) (by exact (pa_cons (pe_gi T.k1) (pa_cons (pe_fld (pv 0) rfl) pa_nil))))) pss_nil)
      (pss_one (ps_if (pt_cmpR op_gt (pe_fld (pe_ix ix_list (pe_fld (pv 0) rfl) pe_int (fun _ _ => rfl)) rfl) (pe_gi k200) (nomark _))
        (pss_one (ps_raiseFault rfl T.ft hr (takes_of rfl rfl rfl rfl) (by exact (pa_cons (pe_gi k7) (pa_cons pe_int pa_nil))))) pss_nil)), ?_⟩)
  · unfold spFin at h
    obtain ⟨_, _, _, _, _, _, _, _, _, rfl, _⟩ := h
    rfl
  unfold spFin at h
  obtain ⟨a, dx, ag, an, ab, g, ts, bs, st, rfl, h, hne, hQ⟩ := h
  have hbl := Stk.len h.sk
  refine ⟨_, rfl, a, C, dx, _, _, rfl, h.rd.1, T.cl, T.nB, rF_brackets, ab, _, rfl, .inl (SqL.of h.bl), _, _, rfl, rfl, _, rfl, ?_⟩
  rw [List.length_map, List.length_reverse, hbl]
  have sk := h.sk
  cases hf : st.frs with
  | nil => exact absurd hf hne
  | cons fr frs =>
    rw [hf] at sk hbl
    cases frs with
    | cons f2 fs =>
      have e : Mach.finish st = .error ⟨1, st.p⟩ := by unfold Mach.finish; rw [hf]
      rw [e] at hQ
      have hQ' : Out CF ⟨1, st.p⟩ E := hQ
      exact if_true_of (decide_eq_true (by show (1 : Int) < ((fs.length + 1 + 1 : Nat) : Int); omega)) ⟨_, rfl, a, C, dx, _, _, rfl, h.rd.1, T.cl, T.nP, rF_place, _, _, rfl, fun d hd => hQ' d _ upd_same⟩
    | nil =>
      have e : Mach.finish st = if PatWords.ATOMS < fr.pat.size then .error ⟨7, 0⟩ else .ok (fr.pat, st.ns) := by unfold Mach.finish; rw [hf]
      rw [e, pat_size] at hQ
      refine if_false_of rfl ?_
      cases bs with
      | nil => exact sk.elim
      | cons b bs =>
        obtain ⟨⟨⟨dxb, hb⟩, _⟩, _, hs⟩ := sk
        cases bs with
        | cons b2 bs => exact hs.elim
        | nil =>
          have hbl1 : H ab = some (.lst [V.ref b]) := h.bl
          refine ⟨_, rfl, a, C, dx, _, _, rfl, h.rd.1, T.cl, T.nB, rF_brackets, ab, _, _, _, rfl, rfl, SqL.of hbl1, atI_nat (j := 0) rfl, b, CB, dxb, _, _, rfl, hb, TB.cl, TB.nA, bF_atoms, _, _, rfl, rfl, _, rfl, ?_⟩
          by_cases c : PatWords.ATOMS < fsize fr
          · rw [if_pos c] at hQ
            have hQ' : Out CF ⟨7, 0⟩ E := hQ
            refine if_true_of (decide_eq_true ?_) ⟨_, _, rfl, fun d hd => hQ' d _ upd_same⟩
            unfold PatWords.ATOMS at c
            omega
          · rw [if_neg c] at hQ
            refine if_false_of (decide_eq_false ?_) hQ
            unfold PatWords.ATOMS at c
            omega
end
end Pat
end

section
namespace Pat
open PySem PySem.Spec PyProof.Rows L2
open PySem.FaultX (FaultTxt)
open PatUtf (Fault)
open PatWords (Pat repP timesP partsP oneP atomP valueP Name)
open Mach (Fr)
theorem step_ne {p : Nat} {ns : List (Nat × Name)} {fr : Fr} {frs : List Fr} {c : UInt8} {r : List UInt8} {st : Mach.St} (h : Mach.stepC p ns fr frs c r = .ok st) : st.frs ≠ [] := by
  unfold Mach.stepC at h
  split at h; · cases h; exact fun e => nomatch e
  split at h
  · split at h
    · cases h
    · cases h; exact fun e => nomatch e
  split at h
  · split at h
    · cases h
    · split at h
      · cases h
      · cases h; exact fun e => nomatch e
  split at h
  · split at h
    · cases frs with
      | nil => cases h
      | cons gg gs => cases h; exact fun e => nomatch e
    · cases h
  split at h
  · split at h
    · split at h
      · cases h
      · cases h; exact fun e => nomatch e
    · cases h
  · split at h
    · cases h
    · cases h; exact fun e => nomatch e
section
variable {P : Program} {w : World} {K : PySem.W.Frag} {mg : Str → Option Value} {base : Heap} {C CB CF fI fB fR : Addr} {H : Hp} {a dx ag an ab : Addr} {g : List UInt8} {ts bs : List Addr} {st : Mach.St} {Q : VK} {E : XK}
/-! ### Reader(given) -/
@[irreducible] def spRInit (K : PySem.W.Frag) (C CB : Addr) : Sp := fun vs H Q _ => ∃ (a dx ag : Addr) (g : List UInt8), vs = [.ref a, .ref ag] ∧ H a = some (.ins C dx []) ∧ SqL K H ag (gv g) ∧ g.length ≤ 1000 ∧
  ∀ H' an ab b, RS K C CB H' a dx ag an ab g [] [b] (Mach.start g) → Kept H H' a → Q .non H'
theorem rinit_use (ha : H a = some (.ins C dx [])) (sq : SqL K H ag (gv g)) (hl : g.length ≤ 1000) (r : ∀ H' an ab b, RS K C CB H' a dx ag an ab g [] [b] (Mach.start g) → Kept H H' a → Q .non H') : spRInit K C CB [.ref a, .ref ag] H Q E := by
  unfold spRInit
  exact ⟨a, dx, ag, g, rfl, ha, sq, hl, r⟩
theorem scRI : FnScope ["self", "given"] ["self", "given"] (defScope (sR 0)) := ⟨rfl, rfl, rfl, by decide +kernel, rfl, by decide +kernel, by decide +kernel⟩
theorem rF_new {ag an ab : Addr} : putF "brackets" (.ref ab) (putF "names" (.ref an) (putF "place" (.int 0) (putF "given" (.ref ag) []))) = rF ag 0 an ab := by
  have e1 : putF "place" (.int 0) (putF "given" (.ref ag) []) = [(("given" : Str), V.ref ag), (("place" : Str), V.int 0)] := (put_past (by decide +kernel)).trans rfl
  have e2 : putF "names" (.ref an) [(("given" : Str), V.ref ag), (("place" : Str), V.int 0)] = [(("given" : Str), V.ref ag), (("place" : Str), V.int 0), (("names" : Str), V.ref an)] := (put_past (by decide +kernel)).trans (congrArg _ ((put_past (by decide +kernel)).trans rfl))
  rw [e1, e2]
  exact (put_past (by decide +kernel)).trans (congrArg _ ((put_past (by decide +kernel)).trans (congrArg _ ((put_past (by decide +kernel)).trans rfl))))
theorem ok_rinit {f : Addr} {fd fdB : FuncData} (F : Fun K "__init__" "Reader.__init__" (sR 0) f fd) (T : Txt K mg C CF fI)
    (MB : Mk K CB fB) (gB : mg "Bracket" = some (.ref CB)) (GB : FnOk P w K mg base CX0 1 fB fdB ["self", "closing"] (spBInit CB)) (bB : Binds K fdB ["self", "closing"] []) :
    FnOk P w K mg base CX0 3 f fd ["self", "given"] (spRInit K C CB) := by
  refine F.ok scRI (fun vs H Q E h => ?_) (fun cdv A outer s H vs Q E hr h => ⟨_, pss_cons (ps_fld (pv 0) (pv 1) rfl) (pss_cons (ps_fld (pv 0) pe_int rfl) (pss_cons (ps_fld (pv 0) (pe_lst pa_nil) rfl)
      (pss_one (ps_fld (pv 0) (pe_lst (pa_cons (pe_make MB GB hr rfl gB bB .nil pass0 (pa_cons pe_str pa_nil)) pa_nil)) rfl)))), ?_⟩)
  · unfold spRInit at h
    obtain ⟨_, _, _, _, rfl, _⟩ := h
    rfl
  unfold spRInit at h
  obtain ⟨a, dx, ag, g, rfl, ha, sq, hl, hQ⟩ := h
  refine ⟨_, rfl, _, rfl, a, C, dx, _, rfl, ha, T.cl, T.nG, by show 0 < 1000; decide, ?_⟩
  refine ⟨_, rfl, a, C, dx, _, rfl, upd_same, T.cl, T.nP, by show 1 < 1000; decide, ?_⟩
  refine ⟨by show 0 ≤ sizeLine; decide, fun an hn => ?_⟩
  rw [upd_upd] at hn
  have hna : an ≠ a := fun e => by rw [e, upd_same] at hn; cases hn
  rw [upd_upd]
  refine ⟨_, rfl, a, C, dx, _, rfl, (upd_ne hna.symm).trans upd_same, T.cl, T.nN, by show 2 < 1000; decide, ?_⟩
  intro x dxx hx hdx hne
  refine binit_use upd_same fun H4 hb4 k4 => ⟨rfl, ?_⟩
  have s4 := made_same hx hdx k4
  refine ⟨by show 1 ≤ sizeLine; decide, fun ab hab => ?_⟩
  have ha4 := s4 a _ upd_same
  have han4 : H4 an = some (.lst []) := s4 an _ ((upd_ne hna).trans upd_same)
  have habx : ab ≠ x := (ne_of_none hb4 hab).symm
  have haba : ab ≠ a := (ne_of_none ha4 hab).symm
  have haban : ab ≠ an := (ne_of_none han4 hab).symm
  have hxa : x ≠ a := fun e => by rw [e, upd_same] at hx; cases hx
  refine ⟨_, rfl, a, C, dx, _, rfl, (upd_ne haba.symm).trans ha4, T.cl, T.nB, by show 3 < 1000; decide, ?_⟩
  -- what was there stands
  have hHn : H an = none := by
    rw [upd_ne hna] at hn
    exact hn
  have hHx : ∀ q o, H q = some o → q ≠ a → H4 q = some o := fun q o e n => by
    refine s4 q o ?_
    have nan : q ≠ an := ne_of_none e hHn
    rw [upd_ne n, upd_ne nan, upd_ne n]
    exact e
  have kk : Kept H (upd (upd H4 ab (.lst [V.ref x])) a (.ins C dx (putF "brackets" (.ref ab) (putF "names" (.ref an) (putF "place" (.int 0) (putF "given" (.ref ag) [])))))) a := fun q o e n => by
    have h4 := hHx q o e n
    rw [upd_ne n, upd_ne (ne_of_none h4 hab)]
    exact h4
  refine hQ _ an ab x ?_ kk
  exact {
    rd := ⟨upd_same.trans (congrArg (fun q => some (HO.ins C dx q)) rF_new), seq_kept sq ha kk, Nat.zero_le _, hl⟩
    b := rfl
    nl := (upd_ne hna).trans ((upd_ne haban.symm).trans han4)
    nm := trivial
    ok := fun _ m => nomatch m
    bl := (upd_ne haba).trans upd_same
    nab := haban.symm
    nag := by
      rcases sq with sq | sq
      · left
        have hag : ∃ o, H ag = some o := by
          rcases sq with sq | ⟨o, sq⟩
          · exact ⟨_, sq⟩
          · exact ⟨_, sq⟩
        obtain ⟨o, ho⟩ := hag
        have nga : ag ≠ a := fun e => by
          rw [e, ha] at ho
          rcases sq with sq | ⟨o2, sq⟩ <;> rw [e, ha] at sq <;> cases sq
        exact ⟨ne_of_none (hHx ag o ho nga) hab, ne_of_none ho hHn⟩
      · exact .inr fun _ => .inr sq
    sk := by
      refine ⟨⟨⟨dxx, ?_⟩, fun e => absurd (show false = true from e) Bool.false_ne_true, Nat.zero_le _, fun _ => rfl⟩, by simp, trivial⟩
      exact (upd_ne hxa).trans ((upd_ne habx.symm).trans hb4)
    nlen := Nat.zero_le _
    flen := by show 1 ≤ 41; decide }
/-! ### read_names -/
@[irreducible] def spRead (K : PySem.W.Frag) (CF : Addr) : Sp := fun vs H Q E => ∃ (ag : Addr) (g : List UInt8), vs = [.ref ag] ∧ SqL K H ag (gv g) ∧ g.length ≤ 1000 ∧ match PatWords.read g with
  | .error e => Out CF e E
  | .ok (_, ns) => ∀ (H' : Hp) (an : Addr) (ts : List Addr), H' an = some (.lst (ts.map V.ref)) → Nms K H' ts ns → Q (.ref an) H'
theorem read_use (sq : SqL K H ag (gv g)) (hl : g.length ≤ 1000) (r : match PatWords.read g with
  | .error e => Out CF e E
  | .ok (_, ns) => ∀ (H' : Hp) (an : Addr) (ts : List Addr), H' an = some (.lst (ts.map V.ref)) → Nms K H' ts ns → Q (.ref an) H') : spRead K CF [.ref ag] H Q E := by
  unfold spRead
  exact ⟨ag, g, rfl, sq, hl, r⟩
abbrev sRN : Stmt := top 34
theorem scRN : FnScope ["given", "reader"] ["given"] (defScope sRN) := ⟨rfl, rfl, rfl, by decide +kernel, rfl, by decide +kernel, by decide +kernel⟩
theorem ok_read {f : Addr} {fd fdR : FuncData} (F : Fun K "read_names" "read_names" sRN f fd) (T : Txt K mg C CF fI) (MR : Mk K C fR) (gR : mg "Reader" = some (.ref C)) (GR : FnOk P w K mg base CX0 3 fR fdR ["self", "given"] (spRInit K C CB)) (bR : Binds K fdR ["self", "given"] [])
    (M1 : MOk P w K mg base (L2.CX P w) C 9 "take_next" ["self"] (spNext K C CB CF)) (M2 : MOk P w K mg base (L2.CX P w) C 2 "finish" ["self"] (spFin K C CB CF)) :
    FnOk P w K mg base (L2.CX P w) 10 f fd ["given"] (spRead K CF) := by
  obtain ⟨f1, fd1, m1, b1, G1⟩ := M1
  obtain ⟨f2, fd2, m2, b2, G2⟩ := M2
  refine F.okX scRN (fun vs H Q E h => ?_) (fun cdv A outer s H vs Q E hr h => ⟨_, pss_cons (ps_set (i := 1) scRN.nd rfl (Or.inl rfl) (pe_make MR GR (hr.mono (by decide)) rfl gR bR .nil pass0 (pa_cons (pv 0) pa_nil)))
      (pss_cons (ps_while (passes_of rfl) (pt_cmpR op_lt (pe_fld (pv 1) rfl) (pe_callB call_len_seq (by rfl) T.len PySem.boot_len (pa_cons (pv 0) pa_nil)) (nomark _)) (pss_one (ps_expr (pe_meth0 (pv 1) T.cl m1 G1 hr b1 .nil (passes_call (takes_of rfl rfl rfl rfl) (fun _ _ _ _ h => h))))))
      (pss_cons (ps_expr (pe_meth0 (pv 1) T.cl m2 G2 (hr.mono (by decide)) b2 .nil (passes_call (takes_of rfl rfl rfl rfl) (fun _ _ _ _ h => h))))
      (pss_one (ps_ret (pe_fld (pv 1) rfl))))), ?_⟩)
  · unfold spRead at h
    obtain ⟨_, _, rfl, _⟩ := h
    rfl
  unfold spRead at h
  obtain ⟨ag, g, rfl, sq, hl, hQ⟩ := h
  refine ⟨_, rfl, fun a dx hx hdx hne => ?_⟩
  have s0 : Same H (upd (upd H dx (.own a)) a (.ins C dx [])) := fun b u e => by
    rw [upd_ne (ne_of_none e hx), upd_ne (ne_of_none e hdx)]
    exact e
  refine rinit_use upd_same (s0.seq sq) hl fun H1 an ab b h1 k1 => ⟨rfl, ?_⟩
  have hgo : Mach.go (Mach.start g) = PatWords.read g := Mach.go_read g
  obtain ⟨RR, hRR⟩ : ∃ RR, PatWords.read g = RR := ⟨_, rfl⟩
  rw [hRR] at hgo hQ
  refine ⟨fun m σ H' => ∃ ts bs st, m = g.length - st.p ∧ σ = [some (.ref ag), some (.ref a)] ∧ RS K C CB H' a dx ag an ab g ts bs st ∧ st.frs ≠ [] ∧ Mach.go st = RR, ⟨_, [], [b], Mach.start g, rfl, rfl, h1, List.cons_ne_nil _ _, hgo⟩, ?_⟩
  rintro m σ H5 ⟨ts, bs, st, rfl, rfl, h5, hne5, hgo5⟩
  refine ⟨_, rfl, a, C, dx, _, _, rfl, h5.rd.1, T.cl, T.nP, rF_place, _, rfl, ag, _, rfl, .inl h5.rd.2.1, _, _, rfl, rfl, _, rfl, ?_⟩
  by_cases c1 : st.p < g.length
  · refine if_true_of (decide_eq_true (by rw [gv_len]; omega)) ?_
    have hc : g[st.p]? = some g[st.p] := List.getElem?_eq_getElem c1
    cases hf : st.frs with
    | nil => exact absurd hf hne5
    | cons fr frs =>
      have est : st = ⟨st.p, g[st.p] :: g.drop (st.p + 1), st.ns, fr :: frs⟩ := by
        have e1 := h5.b
        rw [drop_cons hc] at e1
        cases st
        simp only at hf e1 ⊢
        rw [← hf, ← e1]
      have hstep : Mach.go st = match Mach.stepC st.p st.ns fr frs g[st.p] (g.drop (st.p + 1)) with
          | .error e => .error e
          | .ok st => Mach.go st := (congrArg Mach.go est).trans Mach.go_cons
      rw [hstep] at hgo5
      refine ⟨fun σ' H' => σ' = [some (.ref ag), some (.ref a)] ∧ ∃ ts' bs' st', RS K C CB H' a dx ag an ab g ts' bs' st' ∧ st'.frs ≠ [] ∧ Mach.go st' = RR ∧ st.p < st'.p, ?_, ?_⟩
      · rintro σ' H' ⟨rfl, ts', bs', st', h6, hne6, hgo6, hlt6⟩
        exact ⟨g.length - st'.p, by omega, ts', bs', st', rfl, rfl, h6, hne6, hgo6⟩
      · refine ⟨_, rfl, a, dx, _, rfl, h5.rd.1, rF_no (by decide +kernel), ?_⟩
        refine next_use h5 hf hc ?_
        cases es : Mach.stepC st.p st.ns fr frs g[st.p] (g.drop (st.p + 1)) with
        | error e =>
          rw [es] at hgo5
          rw [← hgo5] at hQ
          exact hQ
        | ok st' =>
          rw [es] at hgo5
          intro H6 ts6 bs6 h6
          have hlen := Mach.stepC_len es
          have e6 := h6.b
          rw [e6, List.length_drop, ← drop_cons hc, List.length_drop] at hlen
          exact ⟨rfl, ts6, bs6, st', h6, step_ne es, hgo5, by omega⟩
  · refine if_false_of (decide_eq_false (by rw [gv_len]; omega)) ?_
    have hpl : st.p = g.length := by have := h5.rd.2.2.1; omega
    have hb : st.b = [] := by rw [h5.b, hpl, List.drop_length]
    have hfin : Mach.go st = Mach.finish st := by
      obtain ⟨p, b, ns, frs⟩ := st
      dsimp only at hb
      subst hb
      exact Mach.go_nil
    rw [hfin] at hgo5
    refine ⟨_, rfl, a, dx, _, rfl, h5.rd.1, rF_no (by decide +kernel), ?_⟩
    refine fin_use h5 hne5 ?_
    rw [hgo5]
    cases RR with
    | error e => exact hQ
    | ok y =>
      obtain ⟨pt, ns⟩ := y
      dsimp only at hQ ⊢
      have ens : st.ns = ns := by
        unfold Mach.finish at hgo5
        split at hgo5
        · split at hgo5
          · cases hgo5
          · cases hgo5; rfl
        · cases hgo5
      refine ⟨_, rfl, a, C, dx, _, _, rfl, h5.rd.1, T.cl, T.nN, rF_names, ?_⟩
      exact hQ H5 an ts h5.nl (by rw [← ens]; exact h5.nm)
end
end Pat
end

section
namespace Pat
open PySem PySem.Spec PyProof.Rows L2
open PySem.FaultX (FaultTxt)
open PatUtf (Fault)
section
variable {P : Program} {w : World} {K : PySem.W.Frag} {mg : Str → Option Value} {base : Heap} {C CF fI : Addr} {H : Hp} {Q : VK} {E : XK}
/-! ### name -/
def nameL (k : Int) (g : List UInt8) : List Int := if 128 < g.length then [-2] else match PatWords.read g with
  | .error _ => [-6]
  | .ok (_, ns) => if k < 0 then [-4] else match ns[k.toNat]? with
    | some n => [0, (n.1 : Nat), (n.2.length : Nat)]
    | none => [-4]
def spNameC (K : PySem.W.Frag) : Sp := fun vs H Q _ => ∃ (ag : Addr) (g : List UInt8) (k : Int), vs = [.int k, .ref ag] ∧ SqL K H ag (gv g) ∧ g.length ≤ 1000 ∧ ∀ (H' : Hp) (p : Addr), H' p = some (.lst ((nameL k g).map V.int)) → Q (.ref p) H'
abbrev sJ : Stmt := top 40
theorem scJ : FnScope ["k", "p", "names"] ["k", "p"] (defScope sJ) := ⟨rfl, rfl, rfl, by decide +kernel, rfl, by decide +kernel, by decide +kernel⟩
theorem ok_nameC {f : Addr} {fd : FuncData} (F : Fun K "name" "name" sJ f fd) (hlen : mg "len" = none) (FT : FaultTxt K mg CF fI) (k128 : ∃ t, mg "LONGEST_PATTERN" = some (.int 128 t)) (k2 : ∃ t, mg "TOO_LONG" = some (.int (-2) t)) (k6 : ∃ t, mg "NOT_IN_FORM" = some (.int (-6) t)) (k4 : ∃ t, mg "NOT_THERE" = some (.int (-4) t))
    (G1 : GOk P w K mg base (L2.CX P w) 10 "read_names" ["given"] (spRead K CF)) : FnOk P w K mg base CX0 11 f fd ["k", "p"] (spNameC K) := by
  obtain ⟨f1, fd1, gg1, kp1, b1, G1⟩ := G1
  refine F.ok scJ (fun vs H Q E h => ?_) (fun cdv A outer s H vs Q E hr h => ⟨_, pss_cons (ps_if (pt_cmpR op_gt (pe_callB call_len_seq (by rfl) hlen PySem.boot_len (pa_cons (pv 1) pa_nil)) (pe_gi k128) (nomark _)) (pss_one (ps_ret (pe_lst (pa_cons (pe_gi k2) pa_nil)))) pss_nil)
      (pss_cons (ps_try_only (tb := fun W => tAsg (tCallS (spRead K CF) (WE W) (tCons (tVar 1) tNil)) (gName 2)) (ts := fun _ _ _ => tRet (tLst (tCons (tC (.int (-6))) tNil))) (Wout := fun _ _ _ _ => False) rfl rfl ⟨rfl, by decide, Or.inl FT.gC⟩ takes0
          (fun W pn xe tk _ => pss_one (ps_set (i := 2) scJ.nd rfl (Or.inl rfl) (by exact (pe_callS G1 hr rfl gg1 kp1 b1 (fun σ => passAt tk σ) (by exact (pa_cons (pv 1) pa_nil))))))
          (fun _ _ _ _ _ _ _ => pss_one (ps_ret (by exact (pe_lst (pa_cons (pe_gi k6) pa_nil))))))
      (pss_cons (ps_if (PW.pt (pw_or (pt_cmpR op_lt (pv 0) pe_int (nomark _)) (pw_or1 (pt_cmpR op_ge (pv 0) (pe_callB call_len_seq (by rfl) hlen PySem.boot_len (pa_cons (pv 2) pa_nil)) (nomark _))))) (pss_one (ps_ret (pe_lst (pa_cons (pe_gi k4) pa_nil)))) pss_nil)
      (pss_one (ps_ret (pe_lst (pa_cons pe_int (pa_cons (pe_ix ix_tup (pe_ix ix_list (pv 2) (pv 0) (fun _ _ => rfl)) pe_int (fun _ _ => rfl)) (pa_cons (pe_ix ix_tup (pe_ix ix_list (pv 2) (pv 0) (fun _ _ => rfl)) pe_int (fun _ _ => rfl)) pa_nil)))))))), ?_⟩)
  · obtain ⟨_, _, _, rfl, _⟩ := h
    rfl
  obtain ⟨ag, g, k, rfl, sq, hl, hQ⟩ := h
  refine ⟨_, rfl, ag, _, rfl, .inl sq, _, _, rfl, rfl, _, rfl, ?_⟩
  unfold nameL at hQ
  by_cases c : 128 < g.length
  · rw [if_pos c] at hQ
    refine if_true_of (decide_eq_true (by rw [gv_len]; omega)) ⟨by show 1 ≤ sizeLine; decide, fun p hp => ?_⟩
    exact hQ _ p upd_same
  · rw [if_neg c] at hQ
    refine if_false_of (decide_eq_false (by rw [gv_len]; omega)) ?_
    refine ⟨_, rfl, ?_⟩
    refine read_use sq hl ?_
    cases er : PatWords.read g with
    | error e =>
      rw [er] at hQ
      intro d H' hd
      exact ⟨true, FT.te, fun _ a0 _ => ⟨by show 1 ≤ sizeLine; decide, fun p hp => hQ _ p upd_same⟩, fun q => Bool.noConfusion q⟩
    | ok y =>
      obtain ⟨pt, ns⟩ := y
      rw [er] at hQ
      intro H' an ts hn hm
      have hlen2 := Nms.len hm
      dsimp only at hQ
      refine ⟨_, rfl, _, _, rfl, rfl, _, rfl, ?_⟩
      by_cases c1 : k < 0
      · rw [if_pos c1] at hQ
        exact if_true_of (decide_eq_true c1) (if_true_of rfl ⟨by show 1 ≤ sizeLine; decide, fun p hp => hQ _ p upd_same⟩)
      · rw [if_neg c1] at hQ
        obtain ⟨j, rfl⟩ : ∃ j : Nat, k = (j : Int) := ⟨k.toNat, (Int.toNat_of_nonneg (by omega)).symm⟩
        rw [Int.toNat_natCast] at hQ
        refine if_false_of (decide_eq_false c1) ⟨_, rfl, _, rfl, an, _, rfl, .inl (SqL.of hn), _, _, rfl, rfl, _, rfl, ?_⟩
        rw [List.length_map, hlen2]
        by_cases c2 : ns.length ≤ j
        · rw [List.getElem?_eq_none c2] at hQ
          exact if_true_of (decide_eq_true (by omega)) ⟨by show 1 ≤ sizeLine; decide, fun p hp => hQ _ p upd_same⟩
        · have ht : ts[j]? = some (ts[j]'(by omega)) := List.getElem?_eq_getElem (by omega)
          obtain ⟨n, hnj, hsq⟩ := Nms.get hm ht
          rw [hnj] at hQ
          have hix : atI (ts.map V.ref) ((j : Nat) : Int) = some (V.ref (ts[j]'(by omega))) := atI_nat (by rw [List.getElem?_map, ht]; rfl)
          refine if_false_of (decide_eq_false (by omega)) ?_
          exact ⟨_, rfl, _, rfl, an, _, _, _, rfl, rfl, SqL.of hn, hix, _, _, _, _, rfl, rfl, hsq, atI_nat (j := 0) rfl, _, rfl, _, rfl, an, _, _, _, rfl, rfl, SqL.of hn, hix, _, _, _, _, rfl, rfl, hsq, atI_nat (j := 1) rfl,
            by show 3 ≤ sizeLine; decide, fun p hp => hQ _ p upd_same⟩
end
end Pat
end

section
namespace Pat
open PySem PySem.Spec PyProof.Rows L2
open PySem.FaultX (FaultTxt)
theorem exm_self {K : PySem.W.Frag} {S : Addr} (h1 : PySem.W.subIn K (.ref S) (.type "BaseException") = some true) (h2 : PySem.W.isClsIn K S = true) (h3 : PySem.W.typeIn K (.ref S) = some (.type "type")) (h4 : PySem.W.subIn K (.ref S) (.ref S) = some true) :
    PySem.W.exmOne K (.ref S) (.ref S) = some true := by
  have e1 : (PySem.W.subIn K (.ref S) (.type "BaseException") == some true) = true := by rw [h1] <;> rfl
  have e2 : ((PySem.W.clsIn K S).isSome && PySem.W.typeIn K (.ref S) == some (.type "type")) = true := by
    have h2' : (PySem.W.clsIn K S).isSome = true := h2
    rw [h2', h3] <;> rfl
  show (if (PySem.W.subIn K (.ref S) (.type "BaseException") == some true) = true then (if ((PySem.W.clsIn K S).isSome && PySem.W.typeIn K (.ref S) == some (.type "type")) = true then PySem.W.subIn K (.ref S) (.ref S) else none) else none) = some true
  rw [if_pos e1, if_pos e2]
  exact h4

theorem all_mk {P : Program} {w : World} {K : PySem.W.Frag} {h : Heap} {mg : Str → Option Value} {fa C CB CF fI d1 d2 d3 d4 : Addr} (X : K.In h) (G : h.Ns mainGlobals mg) (hfa : mg "name" = some (.ref fa))
    {f_R_init f_R_need_byte f_R_at f_R_take f_R_take_plain f_R_take_escape f_R_take_one f_R_take_part f_R_take_set f_R_take_single_atom f_R_take_number f_R_take_braces f_R_take_repetition f_R_keep_name f_R_take_name f_R_take_opening f_R_take_closing f_R_take_next f_R_finish f_B_init f_B_add_atom f_B_repeat_atom f_B_end_row f_following_bytes f_scalar_at f_escape_value f_read_names f_name : Addr}
    {oc_R_init kV_R_init dc_R_init pm_R_init cd_R_init ct_R_init oc_R_need_byte kV_R_need_byte dc_R_need_byte pm_R_need_byte cd_R_need_byte ct_R_need_byte oc_R_at kV_R_at dc_R_at pm_R_at cd_R_at ct_R_at oc_R_take kV_R_take dc_R_take pm_R_take cd_R_take ct_R_take oc_R_take_plain kV_R_take_plain dc_R_take_plain pm_R_take_plain cd_R_take_plain ct_R_take_plain oc_R_take_escape kV_R_take_escape dc_R_take_escape pm_R_take_escape cd_R_take_escape ct_R_take_escape oc_R_take_one kV_R_take_one dc_R_take_one pm_R_take_one cd_R_take_one ct_R_take_one oc_R_take_part kV_R_take_part dc_R_take_part pm_R_take_part cd_R_take_part ct_R_take_part oc_R_take_set kV_R_take_set dc_R_take_set pm_R_take_set cd_R_take_set ct_R_take_set oc_R_take_single_atom kV_R_take_single_atom dc_R_take_single_atom pm_R_take_single_atom cd_R_take_single_atom ct_R_take_single_atom oc_R_take_number kV_R_take_number dc_R_take_number pm_R_take_number cd_R_take_number ct_R_take_number oc_R_take_braces kV_R_take_braces dc_R_take_braces pm_R_take_braces cd_R_take_braces ct_R_take_braces oc_R_take_repetition kV_R_take_repetition dc_R_take_repetition pm_R_take_repetition cd_R_take_repetition ct_R_take_repetition oc_R_keep_name kV_R_keep_name dc_R_keep_name pm_R_keep_name cd_R_keep_name ct_R_keep_name oc_R_take_name kV_R_take_name dc_R_take_name pm_R_take_name cd_R_take_name ct_R_take_name oc_R_take_opening kV_R_take_opening dc_R_take_opening pm_R_take_opening cd_R_take_opening ct_R_take_opening oc_R_take_closing kV_R_take_closing dc_R_take_closing pm_R_take_closing cd_R_take_closing ct_R_take_closing oc_R_take_next kV_R_take_next dc_R_take_next pm_R_take_next cd_R_take_next ct_R_take_next oc_R_finish kV_R_finish dc_R_finish pm_R_finish cd_R_finish ct_R_finish oc_B_init kV_B_init dc_B_init pm_B_init cd_B_init ct_B_init oc_B_add_atom kV_B_add_atom dc_B_add_atom pm_B_add_atom cd_B_add_atom ct_B_add_atom oc_B_repeat_atom kV_B_repeat_atom dc_B_repeat_atom pm_B_repeat_atom cd_B_repeat_atom ct_B_repeat_atom oc_B_end_row kV_B_end_row dc_B_end_row pm_B_end_row cd_B_end_row ct_B_end_row oc_following_bytes kV_following_bytes dc_following_bytes pm_following_bytes cd_following_bytes ct_following_bytes oc_scalar_at kV_scalar_at dc_scalar_at pm_scalar_at cd_scalar_at ct_scalar_at oc_escape_value kV_escape_value dc_escape_value pm_escape_value cd_escape_value ct_escape_value oc_read_names kV_read_names dc_read_names pm_read_names cd_read_names ct_read_names oc_name kV_name dc_name pm_name cd_name ct_name oc1 dc1 pm1 cd1 ct1 : Value}
    {od_R_init an_R_init od_R_need_byte an_R_need_byte od_R_at an_R_at od_R_take an_R_take od_R_take_plain an_R_take_plain od_R_take_escape an_R_take_escape od_R_take_one an_R_take_one od_R_take_part an_R_take_part od_R_take_set an_R_take_set od_R_take_single_atom an_R_take_single_atom od_R_take_number an_R_take_number od_R_take_braces an_R_take_braces od_R_take_repetition an_R_take_repetition od_R_keep_name an_R_keep_name od_R_take_name an_R_take_name od_R_take_opening an_R_take_opening od_R_take_closing an_R_take_closing od_R_take_next an_R_take_next od_R_finish an_R_finish od_B_init an_B_init od_B_add_atom an_B_add_atom od_B_repeat_atom an_B_repeat_atom od_B_end_row an_B_end_row od_following_bytes an_following_bytes od_scalar_at an_scalar_at od_escape_value an_escape_value od_read_names an_read_names od_name an_name od1 an1 : Option Addr}
    {sl_R_init sl_R_need_byte sl_R_at sl_R_take sl_R_take_plain sl_R_take_escape sl_R_take_one sl_R_take_part sl_R_take_set sl_R_take_single_atom sl_R_take_number sl_R_take_braces sl_R_take_repetition sl_R_keep_name sl_R_take_name sl_R_take_opening sl_R_take_closing sl_R_take_next sl_R_finish sl_B_init sl_B_add_atom sl_B_repeat_atom sl_B_end_row sl_following_bytes sl_scalar_at sl_escape_value sl_read_names sl_name sl1 : Array (Option Value)}
    {nm q : Str} {N : Addr} {bs : List Value} {sn : List Str} {sub : List Value} {ab : Bool} {col : Option Bool} {dd : Option Addr} {m0 m1 m2 m3 m5 : Option Value} {e1 e2 e3 e4 : Nat}
    {t_ENDS_TOO_SOON t_CANNOT_STAND t_NUMBER_OUT_OF_RANGE t_NAME_REFUSED t_TOO_MANY_OPEN t_ENDS_IN_WRONG_ORDER t_TOO_MANY_ATOMS t_MOST_TIMES t_MOST_NAMES t_LONGEST_NAME t_MOST_OPEN t_MOST_ATOMS t_LONGEST_PATTERN t_TOO_LONG t_NOT_IN_FORM t_NOT_THERE t_FIGURES t_SMALL_LETTERS t_NAME_SIGNS t_SIGNS t_SET_SIGNS t_END_ESCAPES t_PART_ESCAPES t_ATOM_ESCAPES t_VALUELESS_ESCAPES u1 u2 u3 u4 u5 u6 u7 u8 u9 u10 u11 u12 u13 u14 u15 u16 : Tok}
    (aR : PySem.W.nsIn K mainGlobals "Reader" = some (some (.ref C)))
    (pgR : PySem.W.plainGet K C Str.empty = true)
    (hdR : PySem.W.hasDictIn K C = true)
    (poR : PySem.W.plainOver K C = true)
    (saR : PySem.W.findIn K (.ref C) "__setattr__" = some (some (.builtin "object.__setattr__")))
    (mkR : PySem.W.makesIn K C = true)
    (kcR : PySem.W.keepIn K (.ref C) = true)
    (nR_given : PySem.W.findIn K (.ref C) "given" = some none)
    (nR_place : PySem.W.findIn K (.ref C) "place" = some none)
    (nR_names : PySem.W.findIn K (.ref C) "names" = some none)
    (nR_brackets : PySem.W.findIn K (.ref C) "brackets" = some none)
    (a_R_init : PySem.W.findIn K (.ref C) "__init__" = some (some (.ref f_R_init)))
    (i_R_init : PySem.W.isFn K (.ref f_R_init) = true)
    (l_R_init : K.lookup f_R_init = some ⟨oc_R_init, od_R_init, .func (PySem.W.fnOf "__init__" "Reader.__init__" (defArgs (sR 0)) (defBody (sR 0)) (defScope (sR 0)) .none kV_R_init dc_R_init pm_R_init an_R_init cd_R_init ct_R_init), sl_R_init⟩)
    (c_R_init : PySem.W.codeIn K cd_R_init "Reader.__init__" = true)
    (k_R_init : PySem.W.keepIn K (.ref f_R_init) = true)
    (a_R_need_byte : PySem.W.findIn K (.ref C) "need_byte" = some (some (.ref f_R_need_byte)))
    (i_R_need_byte : PySem.W.isFn K (.ref f_R_need_byte) = true)
    (l_R_need_byte : K.lookup f_R_need_byte = some ⟨oc_R_need_byte, od_R_need_byte, .func (PySem.W.fnOf "need_byte" "Reader.need_byte" (defArgs (sR 1)) (defBody (sR 1)) (defScope (sR 1)) .none kV_R_need_byte dc_R_need_byte pm_R_need_byte an_R_need_byte cd_R_need_byte ct_R_need_byte), sl_R_need_byte⟩)
    (c_R_need_byte : PySem.W.codeIn K cd_R_need_byte "Reader.need_byte" = true)
    (k_R_need_byte : PySem.W.keepIn K (.ref f_R_need_byte) = true)
    (a_R_at : PySem.W.findIn K (.ref C) "at" = some (some (.ref f_R_at)))
    (i_R_at : PySem.W.isFn K (.ref f_R_at) = true)
    (l_R_at : K.lookup f_R_at = some ⟨oc_R_at, od_R_at, .func (PySem.W.fnOf "at" "Reader.at" (defArgs (sR 2)) (defBody (sR 2)) (defScope (sR 2)) .none kV_R_at dc_R_at pm_R_at an_R_at cd_R_at ct_R_at), sl_R_at⟩)
    (c_R_at : PySem.W.codeIn K cd_R_at "Reader.at" = true)
    (k_R_at : PySem.W.keepIn K (.ref f_R_at) = true)
    (a_R_take : PySem.W.findIn K (.ref C) "take" = some (some (.ref f_R_take)))
    (i_R_take : PySem.W.isFn K (.ref f_R_take) = true)
    (l_R_take : K.lookup f_R_take = some ⟨oc_R_take, od_R_take, .func (PySem.W.fnOf "take" "Reader.take" (defArgs (sR 3)) (defBody (sR 3)) (defScope (sR 3)) .none kV_R_take dc_R_take pm_R_take an_R_take cd_R_take ct_R_take), sl_R_take⟩)
    (c_R_take : PySem.W.codeIn K cd_R_take "Reader.take" = true)
    (k_R_take : PySem.W.keepIn K (.ref f_R_take) = true)
    (a_R_take_plain : PySem.W.findIn K (.ref C) "take_plain" = some (some (.ref f_R_take_plain)))
    (i_R_take_plain : PySem.W.isFn K (.ref f_R_take_plain) = true)
    (l_R_take_plain : K.lookup f_R_take_plain = some ⟨oc_R_take_plain, od_R_take_plain, .func (PySem.W.fnOf "take_plain" "Reader.take_plain" (defArgs (sR 4)) (defBody (sR 4)) (defScope (sR 4)) .none kV_R_take_plain dc_R_take_plain pm_R_take_plain an_R_take_plain cd_R_take_plain ct_R_take_plain), sl_R_take_plain⟩)
    (c_R_take_plain : PySem.W.codeIn K cd_R_take_plain "Reader.take_plain" = true)
    (k_R_take_plain : PySem.W.keepIn K (.ref f_R_take_plain) = true)
    (a_R_take_escape : PySem.W.findIn K (.ref C) "take_escape" = some (some (.ref f_R_take_escape)))
    (i_R_take_escape : PySem.W.isFn K (.ref f_R_take_escape) = true)
    (l_R_take_escape : K.lookup f_R_take_escape = some ⟨oc_R_take_escape, od_R_take_escape, .func (PySem.W.fnOf "take_escape" "Reader.take_escape" (defArgs (sR 5)) (defBody (sR 5)) (defScope (sR 5)) .none kV_R_take_escape dc_R_take_escape pm_R_take_escape an_R_take_escape cd_R_take_escape ct_R_take_escape), sl_R_take_escape⟩)
    (c_R_take_escape : PySem.W.codeIn K cd_R_take_escape "Reader.take_escape" = true)
    (k_R_take_escape : PySem.W.keepIn K (.ref f_R_take_escape) = true)
    (a_R_take_one : PySem.W.findIn K (.ref C) "take_one" = some (some (.ref f_R_take_one)))
    (i_R_take_one : PySem.W.isFn K (.ref f_R_take_one) = true)
    (l_R_take_one : K.lookup f_R_take_one = some ⟨oc_R_take_one, od_R_take_one, .func (PySem.W.fnOf "take_one" "Reader.take_one" (defArgs (sR 6)) (defBody (sR 6)) (defScope (sR 6)) .none kV_R_take_one dc_R_take_one pm_R_take_one an_R_take_one cd_R_take_one ct_R_take_one), sl_R_take_one⟩)
    (c_R_take_one : PySem.W.codeIn K cd_R_take_one "Reader.take_one" = true)
    (k_R_take_one : PySem.W.keepIn K (.ref f_R_take_one) = true)
    (a_R_take_part : PySem.W.findIn K (.ref C) "take_part" = some (some (.ref f_R_take_part)))
    (i_R_take_part : PySem.W.isFn K (.ref f_R_take_part) = true)
    (l_R_take_part : K.lookup f_R_take_part = some ⟨oc_R_take_part, od_R_take_part, .func (PySem.W.fnOf "take_part" "Reader.take_part" (defArgs (sR 7)) (defBody (sR 7)) (defScope (sR 7)) .none kV_R_take_part dc_R_take_part pm_R_take_part an_R_take_part cd_R_take_part ct_R_take_part), sl_R_take_part⟩)
    (c_R_take_part : PySem.W.codeIn K cd_R_take_part "Reader.take_part" = true)
    (k_R_take_part : PySem.W.keepIn K (.ref f_R_take_part) = true)
    (a_R_take_set : PySem.W.findIn K (.ref C) "take_set" = some (some (.ref f_R_take_set)))
    (i_R_take_set : PySem.W.isFn K (.ref f_R_take_set) = true)
    (l_R_take_set : K.lookup f_R_take_set = some ⟨oc_R_take_set, od_R_take_set, .func (PySem.W.fnOf "take_set" "Reader.take_set" (defArgs (sR 8)) (defBody (sR 8)) (defScope (sR 8)) .none kV_R_take_set dc_R_take_set pm_R_take_set an_R_take_set cd_R_take_set ct_R_take_set), sl_R_take_set⟩)
    (c_R_take_set : PySem.W.codeIn K cd_R_take_set "Reader.take_set" = true)
    (k_R_take_set : PySem.W.keepIn K (.ref f_R_take_set) = true)
    (a_R_take_single_atom : PySem.W.findIn K (.ref C) "take_single_atom" = some (some (.ref f_R_take_single_atom)))
    (i_R_take_single_atom : PySem.W.isFn K (.ref f_R_take_single_atom) = true)
    (l_R_take_single_atom : K.lookup f_R_take_single_atom = some ⟨oc_R_take_single_atom, od_R_take_single_atom, .func (PySem.W.fnOf "take_single_atom" "Reader.take_single_atom" (defArgs (sR 9)) (defBody (sR 9)) (defScope (sR 9)) .none kV_R_take_single_atom dc_R_take_single_atom pm_R_take_single_atom an_R_take_single_atom cd_R_take_single_atom ct_R_take_single_atom), sl_R_take_single_atom⟩)
    (c_R_take_single_atom : PySem.W.codeIn K cd_R_take_single_atom "Reader.take_single_atom" = true)
    (k_R_take_single_atom : PySem.W.keepIn K (.ref f_R_take_single_atom) = true)
    (a_R_take_number : PySem.W.findIn K (.ref C) "take_number" = some (some (.ref f_R_take_number)))
    (i_R_take_number : PySem.W.isFn K (.ref f_R_take_number) = true)
    (l_R_take_number : K.lookup f_R_take_number = some ⟨oc_R_take_number, od_R_take_number, .func (PySem.W.fnOf "take_number" "Reader.take_number" (defArgs (sR 10)) (defBody (sR 10)) (defScope (sR 10)) .none kV_R_take_number dc_R_take_number pm_R_take_number an_R_take_number cd_R_take_number ct_R_take_number), sl_R_take_number⟩)
    (c_R_take_number : PySem.W.codeIn K cd_R_take_number "Reader.take_number" = true)
    (k_R_take_number : PySem.W.keepIn K (.ref f_R_take_number) = true)
    (a_R_take_braces : PySem.W.findIn K (.ref C) "take_braces" = some (some (.ref f_R_take_braces)))
    (i_R_take_braces : PySem.W.isFn K (.ref f_R_take_braces) = true)
    (l_R_take_braces : K.lookup f_R_take_braces = some ⟨oc_R_take_braces, od_R_take_braces, .func (PySem.W.fnOf "take_braces" "Reader.take_braces" (defArgs (sR 11)) (defBody (sR 11)) (defScope (sR 11)) .none kV_R_take_braces dc_R_take_braces pm_R_take_braces an_R_take_braces cd_R_take_braces ct_R_take_braces), sl_R_take_braces⟩)
    (c_R_take_braces : PySem.W.codeIn K cd_R_take_braces "Reader.take_braces" = true)
    (k_R_take_braces : PySem.W.keepIn K (.ref f_R_take_braces) = true)
    (a_R_take_repetition : PySem.W.findIn K (.ref C) "take_repetition" = some (some (.ref f_R_take_repetition)))
    (i_R_take_repetition : PySem.W.isFn K (.ref f_R_take_repetition) = true)
    (l_R_take_repetition : K.lookup f_R_take_repetition = some ⟨oc_R_take_repetition, od_R_take_repetition, .func (PySem.W.fnOf "take_repetition" "Reader.take_repetition" (defArgs (sR 12)) (defBody (sR 12)) (defScope (sR 12)) .none kV_R_take_repetition dc_R_take_repetition pm_R_take_repetition an_R_take_repetition cd_R_take_repetition ct_R_take_repetition), sl_R_take_repetition⟩)
    (c_R_take_repetition : PySem.W.codeIn K cd_R_take_repetition "Reader.take_repetition" = true)
    (k_R_take_repetition : PySem.W.keepIn K (.ref f_R_take_repetition) = true)
    (a_R_keep_name : PySem.W.findIn K (.ref C) "keep_name" = some (some (.ref f_R_keep_name)))
    (i_R_keep_name : PySem.W.isFn K (.ref f_R_keep_name) = true)
    (l_R_keep_name : K.lookup f_R_keep_name = some ⟨oc_R_keep_name, od_R_keep_name, .func (PySem.W.fnOf "keep_name" "Reader.keep_name" (defArgs (sR 13)) (defBody (sR 13)) (defScope (sR 13)) .none kV_R_keep_name dc_R_keep_name pm_R_keep_name an_R_keep_name cd_R_keep_name ct_R_keep_name), sl_R_keep_name⟩)
    (c_R_keep_name : PySem.W.codeIn K cd_R_keep_name "Reader.keep_name" = true)
    (k_R_keep_name : PySem.W.keepIn K (.ref f_R_keep_name) = true)
    (a_R_take_name : PySem.W.findIn K (.ref C) "take_name" = some (some (.ref f_R_take_name)))
    (i_R_take_name : PySem.W.isFn K (.ref f_R_take_name) = true)
    (l_R_take_name : K.lookup f_R_take_name = some ⟨oc_R_take_name, od_R_take_name, .func (PySem.W.fnOf "take_name" "Reader.take_name" (defArgs (sR 14)) (defBody (sR 14)) (defScope (sR 14)) .none kV_R_take_name dc_R_take_name pm_R_take_name an_R_take_name cd_R_take_name ct_R_take_name), sl_R_take_name⟩)
    (c_R_take_name : PySem.W.codeIn K cd_R_take_name "Reader.take_name" = true)
    (k_R_take_name : PySem.W.keepIn K (.ref f_R_take_name) = true)
    (a_R_take_opening : PySem.W.findIn K (.ref C) "take_opening" = some (some (.ref f_R_take_opening)))
    (i_R_take_opening : PySem.W.isFn K (.ref f_R_take_opening) = true)
    (l_R_take_opening : K.lookup f_R_take_opening = some ⟨oc_R_take_opening, od_R_take_opening, .func (PySem.W.fnOf "take_opening" "Reader.take_opening" (defArgs (sR 15)) (defBody (sR 15)) (defScope (sR 15)) .none kV_R_take_opening dc_R_take_opening pm_R_take_opening an_R_take_opening cd_R_take_opening ct_R_take_opening), sl_R_take_opening⟩)
    (c_R_take_opening : PySem.W.codeIn K cd_R_take_opening "Reader.take_opening" = true)
    (k_R_take_opening : PySem.W.keepIn K (.ref f_R_take_opening) = true)
    (a_R_take_closing : PySem.W.findIn K (.ref C) "take_closing" = some (some (.ref f_R_take_closing)))
    (i_R_take_closing : PySem.W.isFn K (.ref f_R_take_closing) = true)
    (l_R_take_closing : K.lookup f_R_take_closing = some ⟨oc_R_take_closing, od_R_take_closing, .func (PySem.W.fnOf "take_closing" "Reader.take_closing" (defArgs (sR 16)) (defBody (sR 16)) (defScope (sR 16)) .none kV_R_take_closing dc_R_take_closing pm_R_take_closing an_R_take_closing cd_R_take_closing ct_R_take_closing), sl_R_take_closing⟩)
    (c_R_take_closing : PySem.W.codeIn K cd_R_take_closing "Reader.take_closing" = true)
    (k_R_take_closing : PySem.W.keepIn K (.ref f_R_take_closing) = true)
    (a_R_take_next : PySem.W.findIn K (.ref C) "take_next" = some (some (.ref f_R_take_next)))
    (i_R_take_next : PySem.W.isFn K (.ref f_R_take_next) = true)
    (l_R_take_next : K.lookup f_R_take_next = some ⟨oc_R_take_next, od_R_take_next, .func (PySem.W.fnOf "take_next" "Reader.take_next" (defArgs (sR 17)) (defBody (sR 17)) (defScope (sR 17)) .none kV_R_take_next dc_R_take_next pm_R_take_next an_R_take_next cd_R_take_next ct_R_take_next), sl_R_take_next⟩)
    (c_R_take_next : PySem.W.codeIn K cd_R_take_next "Reader.take_next" = true)
    (k_R_take_next : PySem.W.keepIn K (.ref f_R_take_next) = true)
    (a_R_finish : PySem.W.findIn K (.ref C) "finish" = some (some (.ref f_R_finish)))
    (i_R_finish : PySem.W.isFn K (.ref f_R_finish) = true)
    (l_R_finish : K.lookup f_R_finish = some ⟨oc_R_finish, od_R_finish, .func (PySem.W.fnOf "finish" "Reader.finish" (defArgs (sR 18)) (defBody (sR 18)) (defScope (sR 18)) .none kV_R_finish dc_R_finish pm_R_finish an_R_finish cd_R_finish ct_R_finish), sl_R_finish⟩)
    (c_R_finish : PySem.W.codeIn K cd_R_finish "Reader.finish" = true)
    (k_R_finish : PySem.W.keepIn K (.ref f_R_finish) = true)
    (aB : PySem.W.nsIn K mainGlobals "Bracket" = some (some (.ref CB)))
    (pgB : PySem.W.plainGet K CB Str.empty = true)
    (hdB : PySem.W.hasDictIn K CB = true)
    (poB : PySem.W.plainOver K CB = true)
    (saB : PySem.W.findIn K (.ref CB) "__setattr__" = some (some (.builtin "object.__setattr__")))
    (mkB : PySem.W.makesIn K CB = true)
    (kcB : PySem.W.keepIn K (.ref CB) = true)
    (nB_closing : PySem.W.findIn K (.ref CB) "closing" = some none)
    (nB_atoms : PySem.W.findIn K (.ref CB) "atoms" = some none)
    (nB_last_atom : PySem.W.findIn K (.ref CB) "last_atom" = some none)
    (a_B_init : PySem.W.findIn K (.ref CB) "__init__" = some (some (.ref f_B_init)))
    (i_B_init : PySem.W.isFn K (.ref f_B_init) = true)
    (l_B_init : K.lookup f_B_init = some ⟨oc_B_init, od_B_init, .func (PySem.W.fnOf "__init__" "Bracket.__init__" (defArgs (sB 0)) (defBody (sB 0)) (defScope (sB 0)) .none kV_B_init dc_B_init pm_B_init an_B_init cd_B_init ct_B_init), sl_B_init⟩)
    (c_B_init : PySem.W.codeIn K cd_B_init "Bracket.__init__" = true)
    (k_B_init : PySem.W.keepIn K (.ref f_B_init) = true)
    (a_B_add_atom : PySem.W.findIn K (.ref CB) "add_atom" = some (some (.ref f_B_add_atom)))
    (i_B_add_atom : PySem.W.isFn K (.ref f_B_add_atom) = true)
    (l_B_add_atom : K.lookup f_B_add_atom = some ⟨oc_B_add_atom, od_B_add_atom, .func (PySem.W.fnOf "add_atom" "Bracket.add_atom" (defArgs (sB 1)) (defBody (sB 1)) (defScope (sB 1)) .none kV_B_add_atom dc_B_add_atom pm_B_add_atom an_B_add_atom cd_B_add_atom ct_B_add_atom), sl_B_add_atom⟩)
    (c_B_add_atom : PySem.W.codeIn K cd_B_add_atom "Bracket.add_atom" = true)
    (k_B_add_atom : PySem.W.keepIn K (.ref f_B_add_atom) = true)
    (a_B_repeat_atom : PySem.W.findIn K (.ref CB) "repeat_atom" = some (some (.ref f_B_repeat_atom)))
    (i_B_repeat_atom : PySem.W.isFn K (.ref f_B_repeat_atom) = true)
    (l_B_repeat_atom : K.lookup f_B_repeat_atom = some ⟨oc_B_repeat_atom, od_B_repeat_atom, .func (PySem.W.fnOf "repeat_atom" "Bracket.repeat_atom" (defArgs (sB 2)) (defBody (sB 2)) (defScope (sB 2)) .none kV_B_repeat_atom dc_B_repeat_atom pm_B_repeat_atom an_B_repeat_atom cd_B_repeat_atom ct_B_repeat_atom), sl_B_repeat_atom⟩)
    (c_B_repeat_atom : PySem.W.codeIn K cd_B_repeat_atom "Bracket.repeat_atom" = true)
    (k_B_repeat_atom : PySem.W.keepIn K (.ref f_B_repeat_atom) = true)
    (a_B_end_row : PySem.W.findIn K (.ref CB) "end_row" = some (some (.ref f_B_end_row)))
    (i_B_end_row : PySem.W.isFn K (.ref f_B_end_row) = true)
    (l_B_end_row : K.lookup f_B_end_row = some ⟨oc_B_end_row, od_B_end_row, .func (PySem.W.fnOf "end_row" "Bracket.end_row" (defArgs (sB 3)) (defBody (sB 3)) (defScope (sB 3)) .none kV_B_end_row dc_B_end_row pm_B_end_row an_B_end_row cd_B_end_row ct_B_end_row), sl_B_end_row⟩)
    (c_B_end_row : PySem.W.codeIn K cd_B_end_row "Bracket.end_row" = true)
    (k_B_end_row : PySem.W.keepIn K (.ref f_B_end_row) = true)
    (a_following_bytes : PySem.W.nsIn K mainGlobals "following_bytes" = some (some (.ref f_following_bytes)))
    (l_following_bytes : K.lookup f_following_bytes = some ⟨oc_following_bytes, od_following_bytes, .func (PySem.W.fnOf "following_bytes" "following_bytes" (defArgs sFB) (defBody sFB) (defScope sFB) .none kV_following_bytes dc_following_bytes pm_following_bytes an_following_bytes cd_following_bytes ct_following_bytes), sl_following_bytes⟩)
    (c_following_bytes : PySem.W.codeIn K cd_following_bytes "following_bytes" = true)
    (k_following_bytes : PySem.W.keepIn K (.ref f_following_bytes) = true)
    (a_scalar_at : PySem.W.nsIn K mainGlobals "scalar_at" = some (some (.ref f_scalar_at)))
    (l_scalar_at : K.lookup f_scalar_at = some ⟨oc_scalar_at, od_scalar_at, .func (PySem.W.fnOf "scalar_at" "scalar_at" (defArgs sSA) (defBody sSA) (defScope sSA) .none kV_scalar_at dc_scalar_at pm_scalar_at an_scalar_at cd_scalar_at ct_scalar_at), sl_scalar_at⟩)
    (c_scalar_at : PySem.W.codeIn K cd_scalar_at "scalar_at" = true)
    (k_scalar_at : PySem.W.keepIn K (.ref f_scalar_at) = true)
    (a_escape_value : PySem.W.nsIn K mainGlobals "escape_value" = some (some (.ref f_escape_value)))
    (l_escape_value : K.lookup f_escape_value = some ⟨oc_escape_value, od_escape_value, .func (PySem.W.fnOf "escape_value" "escape_value" (defArgs sEV) (defBody sEV) (defScope sEV) .none kV_escape_value dc_escape_value pm_escape_value an_escape_value cd_escape_value ct_escape_value), sl_escape_value⟩)
    (c_escape_value : PySem.W.codeIn K cd_escape_value "escape_value" = true)
    (k_escape_value : PySem.W.keepIn K (.ref f_escape_value) = true)
    (a_read_names : PySem.W.nsIn K mainGlobals "read_names" = some (some (.ref f_read_names)))
    (l_read_names : K.lookup f_read_names = some ⟨oc_read_names, od_read_names, .func (PySem.W.fnOf "read_names" "read_names" (defArgs sRN) (defBody sRN) (defScope sRN) .none kV_read_names dc_read_names pm_read_names an_read_names cd_read_names ct_read_names), sl_read_names⟩)
    (c_read_names : PySem.W.codeIn K cd_read_names "read_names" = true)
    (k_read_names : PySem.W.keepIn K (.ref f_read_names) = true)
    (a_name : PySem.W.nsIn K mainGlobals "name" = some (some (.ref f_name)))
    (l_name : K.lookup f_name = some ⟨oc_name, od_name, .func (PySem.W.fnOf "name" "name" (defArgs sJ) (defBody sJ) (defScope sJ) .none kV_name dc_name pm_name an_name cd_name ct_name), sl_name⟩)
    (c_name : PySem.W.codeIn K cd_name "name" = true)
    (k_name : PySem.W.keepIn K (.ref f_name) = true)
    (aC : PySem.W.nsIn K mainGlobals "Fault" = some (some (.ref CF)))
    (xL : K.lookup CF = some (excClassObj nm q CF N bs [.type "Exception", .type "BaseException", .type "object"] true sn sub ab col dd m0 m1 m2 m3 m5 "Exception.__new__"))
    (saF : PySem.W.findIn K (.ref CF) "__setattr__" = some (some (.builtin "object.__setattr__")))
    (gaF : PySem.W.findIn K (.ref CF) "__getattribute__" = some (some (.builtin "BaseException.__getattribute__")))
    (ggF : PySem.W.findIn K (.ref CF) "__getattr__" = some none)
    (nbF : PySem.W.findIn K (.ref CF) "kind" = some none)
    (npF : PySem.W.findIn K (.ref CF) "place" = some none)
    (a1F : PySem.W.findIn K (.ref CF) "__init__" = some (some (.ref fI)))
    (t1F : PySem.W.typeIn K (.ref fI) = some (.type "function"))
    (l1F : K.lookup fI = some ⟨oc1, od1, .func (PySem.W.fnOf "__init__" "Fault.__init__" (PySem.FaultX.iA ⟨11, 17, 11, 21⟩ ⟨11, 23, 11, 27⟩ ⟨11, 29, 11, 34⟩) (PySem.FaultX.iB ⟨12, 8, 12, 12⟩ ⟨12, 8, 12, 17⟩ ⟨12, 20, 12, 24⟩ ⟨12, 8, 12, 24⟩ ⟨13, 8, 13, 12⟩ ⟨13, 8, 13, 18⟩ ⟨13, 21, 13, 26⟩ ⟨13, 8, 13, 26⟩) PySem.FaultX.iS .none .none dc1 pm1 an1 cd1 ct1), sl1⟩)
    (c1F : PySem.W.codeIn K cd1 "Fault.__init__" = true)
    (kCF : PySem.W.keepIn K (.ref CF) = true)
    (eCF : PySem.W.subIn K (.ref CF) (.type "BaseException") = some true)
    (tCF : PySem.W.typeIn K (.ref CF) = some (.type "type"))
    (hCF : PySem.W.hasDictIn K CF = true)
    (iCF : PySem.W.isClsIn K CF = true)
    (sCF : PySem.W.subIn K (.ref CF) (.ref CF) = some true)
    (v_ENDS_TOO_SOON : PySem.W.nsIn K mainGlobals "ENDS_TOO_SOON" = some (some (.int (1) t_ENDS_TOO_SOON)))
    (v_CANNOT_STAND : PySem.W.nsIn K mainGlobals "CANNOT_STAND" = some (some (.int (2) t_CANNOT_STAND)))
    (v_NUMBER_OUT_OF_RANGE : PySem.W.nsIn K mainGlobals "NUMBER_OUT_OF_RANGE" = some (some (.int (3) t_NUMBER_OUT_OF_RANGE)))
    (v_NAME_REFUSED : PySem.W.nsIn K mainGlobals "NAME_REFUSED" = some (some (.int (4) t_NAME_REFUSED)))
    (v_TOO_MANY_OPEN : PySem.W.nsIn K mainGlobals "TOO_MANY_OPEN" = some (some (.int (5) t_TOO_MANY_OPEN)))
    (v_ENDS_IN_WRONG_ORDER : PySem.W.nsIn K mainGlobals "ENDS_IN_WRONG_ORDER" = some (some (.int (6) t_ENDS_IN_WRONG_ORDER)))
    (v_TOO_MANY_ATOMS : PySem.W.nsIn K mainGlobals "TOO_MANY_ATOMS" = some (some (.int (7) t_TOO_MANY_ATOMS)))
    (v_MOST_TIMES : PySem.W.nsIn K mainGlobals "MOST_TIMES" = some (some (.int (20) t_MOST_TIMES)))
    (v_MOST_NAMES : PySem.W.nsIn K mainGlobals "MOST_NAMES" = some (some (.int (16) t_MOST_NAMES)))
    (v_LONGEST_NAME : PySem.W.nsIn K mainGlobals "LONGEST_NAME" = some (some (.int (32) t_LONGEST_NAME)))
    (v_MOST_OPEN : PySem.W.nsIn K mainGlobals "MOST_OPEN" = some (some (.int (40) t_MOST_OPEN)))
    (v_MOST_ATOMS : PySem.W.nsIn K mainGlobals "MOST_ATOMS" = some (some (.int (200) t_MOST_ATOMS)))
    (v_LONGEST_PATTERN : PySem.W.nsIn K mainGlobals "LONGEST_PATTERN" = some (some (.int (128) t_LONGEST_PATTERN)))
    (v_TOO_LONG : PySem.W.nsIn K mainGlobals "TOO_LONG" = some (some (.int (-2) t_TOO_LONG)))
    (v_NOT_IN_FORM : PySem.W.nsIn K mainGlobals "NOT_IN_FORM" = some (some (.int (-6) t_NOT_IN_FORM)))
    (v_NOT_THERE : PySem.W.nsIn K mainGlobals "NOT_THERE" = some (some (.int (-4) t_NOT_THERE)))
    (v_FIGURES : PySem.W.nsIn K mainGlobals "FIGURES" = some (some (.str zFig t_FIGURES)))
    (v_SMALL_LETTERS : PySem.W.nsIn K mainGlobals "SMALL_LETTERS" = some (some (.str zSmall t_SMALL_LETTERS)))
    (v_NAME_SIGNS : PySem.W.nsIn K mainGlobals "NAME_SIGNS" = some (some (.str zName t_NAME_SIGNS)))
    (v_SIGNS : PySem.W.nsIn K mainGlobals "SIGNS" = some (some (.str zSigns t_SIGNS)))
    (v_SET_SIGNS : PySem.W.nsIn K mainGlobals "SET_SIGNS" = some (some (.str zSet t_SET_SIGNS)))
    (v_END_ESCAPES : PySem.W.nsIn K mainGlobals "END_ESCAPES" = some (some (.str zEnd t_END_ESCAPES)))
    (v_PART_ESCAPES : PySem.W.nsIn K mainGlobals "PART_ESCAPES" = some (some (.str zPart t_PART_ESCAPES)))
    (v_ATOM_ESCAPES : PySem.W.nsIn K mainGlobals "ATOM_ESCAPES" = some (some (.str zAtom t_ATOM_ESCAPES)))
    (v_VALUELESS_ESCAPES : PySem.W.nsIn K mainGlobals "VALUELESS_ESCAPES" = some (some (.str zNoVal t_VALUELESS_ESCAPES)))
    (v_len : PySem.W.nsIn K mainGlobals "len" = some none)
    (v_ord : PySem.W.nsIn K mainGlobals "ord" = some none)
    (v_range : PySem.W.nsIn K mainGlobals "range" = some none)
    (v_int : PySem.W.nsIn K mainGlobals "int" = some none)
    (v_max : PySem.W.nsIn K mainGlobals "max" = some none)
    (dL : PySem.W.nsIn K mainGlobals "LOWEST_SECOND" = some (some (.ref d1)))
    (dLl : K.lookup d1 = some ⟨.type "dict", none, .dict #[⟨224, .int 224 u1, .int 160 u2⟩, ⟨240, .int 240 u3, .int 144 u4⟩] e1, #[]⟩)
    (dH : PySem.W.nsIn K mainGlobals "HIGHEST_SECOND" = some (some (.ref d2)))
    (dHl : K.lookup d2 = some ⟨.type "dict", none, .dict #[⟨237, .int 237 u5, .int 159 u6⟩, ⟨244, .int 244 u7, .int 143 u8⟩] e2, #[]⟩)
    (dC : PySem.W.nsIn K mainGlobals "CONTROL_VALUES" = some (some (.ref d3)))
    (dCl : K.lookup d3 = some ⟨.type "dict", none, .dict #[⟨PyData.keyHash w.params (sg 110), .str (sg 110) u9, .int 10 u10⟩, ⟨PyData.keyHash w.params (sg 116), .str (sg 116) u11, .int 9 u12⟩] e3, #[]⟩)
    (dM : PySem.W.nsIn K mainGlobals "FIRST_BYTE_MARKS" = some (some (.ref d4)))
    (dMl : K.lookup d4 = some ⟨.type "tuple", none, .seq #[.int 0 u13, .int 192 u14, .int 224 u15, .int 240 u16] e4, #[]⟩)
    (lo1 : (d1 == sysModules) = false)
    (lo2 : (d2 == sysModules) = false)
    (lo3 : (d3 == sysModules) = false)
    : ∃ fd : FuncData, (∀ (s : Shared) (us : List Value), us.length = (["k", "p"] : List Str).length → BindsTo s fd ⟨us, []⟩ ((["k", "p"] : List Str).zip us)) ∧ ∀ base : Heap, K.In base → base.Ns mainGlobals mg → FnOk P w K mg base CX0 11 fa fd ["k", "p"] (spNameC K) := by
  have e := hfa.symm.trans (PySem.W.mg_of X G a_name)
  cases e
  have FT : FaultTxt K mg CF fI := { gC := PySem.W.mg_of X G aC, cls := ⟨nm, q, N, bs, sn, sub, ab, col, dd, m0, m1, m2, m3, m5, xL⟩, sa := saF, xf := ⟨gaF, ggF, eCF, hCF⟩, noK := nbF, noP := npF, iC := a1F, tC := t1F, kC := kCF, exC := eCF, tyC := tCF, te := exm_self eCF iCF tCF sCF, fn := ⟨_, _, _, _, _, _, _, _, _, _, _, _, _, _, _, _, _, _, _, l1F, c1F⟩ }
  have T : Txt K mg C CF fI := ⟨FT, ⟨pgR, hdR, poR, saR⟩, nR_given, nR_place, nR_names, nR_brackets, PySem.W.mg_none_of X G v_len, PySem.W.mg_none_of X G v_ord, ⟨_, PySem.W.mg_of X G v_ENDS_TOO_SOON⟩, ⟨_, PySem.W.mg_of X G v_CANNOT_STAND⟩⟩
  have TB : TxB K CB := ⟨⟨pgB, hdB, poB, saB⟩, nB_closing, nB_atoms, nB_last_atom⟩
  have TS : TxS P w K mg CF fI f_following_bytes := { ft := FT, k1 := T.k1, k2 := T.k2, len := T.len, range := PySem.W.mg_none_of X G v_range, low := ⟨d1, PySem.W.mg_of X G dL, ⟨_, dLl, rfl, rfl⟩, fun i => kat_int lo1 dLl (by decide +kernel) (by decide +kernel) i⟩, high := ⟨d2, PySem.W.mg_of X G dH, ⟨_, dHl, rfl, rfl⟩, fun i => kat_int lo2 dHl (by decide +kernel) (by decide +kernel) i⟩, marks := ⟨d4, PySem.W.mg_of X G dM, fun H => .inr ⟨_, _, _, dMl, rfl, rfl, by show 4 ≤ sizeLine; decide, .cons ⟨_, rfl⟩ (.cons ⟨_, rfl⟩ (.cons ⟨_, rfl⟩ (.cons ⟨_, rfl⟩ .nil)))⟩⟩, gF := PySem.W.mg_of X G a_following_bytes, kF := k_following_bytes }
  have TE : TxE P w K mg := ⟨⟨_, PySem.W.mg_of X G v_VALUELESS_ESCAPES⟩, ⟨d3, PySem.W.mg_of X G dC, ⟨_, dCl, rfl, rfl⟩, fun i => kat_str lo3 dCl i⟩, T.ord⟩
  have F_R_init := fun_mk (st := sR 0) l_R_init c_R_init k_R_init
  have b_R_init := F_R_init.binds (ps := ["self", "given"]) fun _ _ _ _ _ _ us hl => match us, hl with | [_, _], _ => rfl
  have F_R_need_byte := fun_mk (st := sR 1) l_R_need_byte c_R_need_byte k_R_need_byte
  have b_R_need_byte := F_R_need_byte.binds (ps := ["self"]) fun _ _ _ _ _ _ us hl => match us, hl with | [_], _ => rfl
  have F_R_at := fun_mk (st := sR 2) l_R_at c_R_at k_R_at
  have b_R_at := F_R_at.binds (ps := ["self", "signs"]) fun _ _ _ _ _ _ us hl => match us, hl with | [_, _], _ => rfl
  have F_R_take := fun_mk (st := sR 3) l_R_take c_R_take k_R_take
  have b_R_take := F_R_take.binds (ps := ["self", "signs"]) fun _ _ _ _ _ _ us hl => match us, hl with | [_, _], _ => rfl
  have F_R_take_plain := fun_mk (st := sR 4) l_R_take_plain c_R_take_plain k_R_take_plain
  have b_R_take_plain := F_R_take_plain.binds (ps := ["self", "barred"]) fun _ _ _ _ _ _ us hl => match us, hl with | [_, _], _ => rfl
  have F_R_take_escape := fun_mk (st := sR 5) l_R_take_escape c_R_take_escape k_R_take_escape
  have b_R_take_escape := F_R_take_escape.binds (ps := ["self", "escapes"]) fun _ _ _ _ _ _ us hl => match us, hl with | [_, _], _ => rfl
  have F_R_take_one := fun_mk (st := sR 6) l_R_take_one c_R_take_one k_R_take_one
  have b_R_take_one := F_R_take_one.binds (ps := ["self", "escapes"]) fun _ _ _ _ _ _ us hl => match us, hl with | [_, _], _ => rfl
  have F_R_take_part := fun_mk (st := sR 7) l_R_take_part c_R_take_part k_R_take_part
  have b_R_take_part := F_R_take_part.binds (ps := ["self"]) fun _ _ _ _ _ _ us hl => match us, hl with | [_], _ => rfl
  have F_R_take_set := fun_mk (st := sR 8) l_R_take_set c_R_take_set k_R_take_set
  have b_R_take_set := F_R_take_set.binds (ps := ["self"]) fun _ _ _ _ _ _ us hl => match us, hl with | [_], _ => rfl
  have F_R_take_single_atom := fun_mk (st := sR 9) l_R_take_single_atom c_R_take_single_atom k_R_take_single_atom
  have b_R_take_single_atom := F_R_take_single_atom.binds (ps := ["self"]) fun _ _ _ _ _ _ us hl => match us, hl with | [_], _ => rfl
  have F_R_take_number := fun_mk (st := sR 10) l_R_take_number c_R_take_number k_R_take_number
  have b_R_take_number := F_R_take_number.binds (ps := ["self", "least"]) fun _ _ _ _ _ _ us hl => match us, hl with | [_, _], _ => rfl
  have F_R_take_braces := fun_mk (st := sR 11) l_R_take_braces c_R_take_braces k_R_take_braces
  have b_R_take_braces := F_R_take_braces.binds (ps := ["self"]) fun _ _ _ _ _ _ us hl => match us, hl with | [_], _ => rfl
  have F_R_take_repetition := fun_mk (st := sR 12) l_R_take_repetition c_R_take_repetition k_R_take_repetition
  have b_R_take_repetition := F_R_take_repetition.binds (ps := ["self"]) fun _ _ _ _ _ _ us hl => match us, hl with | [_], _ => rfl
  have F_R_keep_name := fun_mk (st := sR 13) l_R_keep_name c_R_keep_name k_R_keep_name
  have b_R_keep_name := F_R_keep_name.binds (ps := ["self", "first_place"]) fun _ _ _ _ _ _ us hl => match us, hl with | [_, _], _ => rfl
  have F_R_take_name := fun_mk (st := sR 14) l_R_take_name c_R_take_name k_R_take_name
  have b_R_take_name := F_R_take_name.binds (ps := ["self"]) fun _ _ _ _ _ _ us hl => match us, hl with | [_], _ => rfl
  have F_R_take_opening := fun_mk (st := sR 15) l_R_take_opening c_R_take_opening k_R_take_opening
  have b_R_take_opening := F_R_take_opening.binds (ps := ["self"]) fun _ _ _ _ _ _ us hl => match us, hl with | [_], _ => rfl
  have F_R_take_closing := fun_mk (st := sR 16) l_R_take_closing c_R_take_closing k_R_take_closing
  have b_R_take_closing := F_R_take_closing.binds (ps := ["self"]) fun _ _ _ _ _ _ us hl => match us, hl with | [_], _ => rfl
  have F_R_take_next := fun_mk (st := sR 17) l_R_take_next c_R_take_next k_R_take_next
  have b_R_take_next := F_R_take_next.binds (ps := ["self"]) fun _ _ _ _ _ _ us hl => match us, hl with | [_], _ => rfl
  have F_R_finish := fun_mk (st := sR 18) l_R_finish c_R_finish k_R_finish
  have b_R_finish := F_R_finish.binds (ps := ["self"]) fun _ _ _ _ _ _ us hl => match us, hl with | [_], _ => rfl
  have F_B_init := fun_mk (st := sB 0) l_B_init c_B_init k_B_init
  have b_B_init := F_B_init.binds (ps := ["self", "closing"]) fun _ _ _ _ _ _ us hl => match us, hl with | [_, _], _ => rfl
  have F_B_add_atom := fun_mk (st := sB 1) l_B_add_atom c_B_add_atom k_B_add_atom
  have b_B_add_atom := F_B_add_atom.binds (ps := ["self", "atoms"]) fun _ _ _ _ _ _ us hl => match us, hl with | [_, _], _ => rfl
  have F_B_repeat_atom := fun_mk (st := sB 2) l_B_repeat_atom c_B_repeat_atom k_B_repeat_atom
  have b_B_repeat_atom := F_B_repeat_atom.binds (ps := ["self", "times"]) fun _ _ _ _ _ _ us hl => match us, hl with | [_, _], _ => rfl
  have F_B_end_row := fun_mk (st := sB 3) l_B_end_row c_B_end_row k_B_end_row
  have b_B_end_row := F_B_end_row.binds (ps := ["self"]) fun _ _ _ _ _ _ us hl => match us, hl with | [_], _ => rfl
  have F_following_bytes := fun_mk (st := sFB) l_following_bytes c_following_bytes k_following_bytes
  have b_following_bytes := F_following_bytes.binds (ps := ["first"]) fun _ _ _ _ _ _ us hl => match us, hl with | [_], _ => rfl
  have F_scalar_at := fun_mk (st := sSA) l_scalar_at c_scalar_at k_scalar_at
  have b_scalar_at := F_scalar_at.binds (ps := ["given", "place"]) fun _ _ _ _ _ _ us hl => match us, hl with | [_, _], _ => rfl
  have F_escape_value := fun_mk (st := sEV) l_escape_value c_escape_value k_escape_value
  have b_escape_value := F_escape_value.binds (ps := ["sign"]) fun _ _ _ _ _ _ us hl => match us, hl with | [_], _ => rfl
  have F_read_names := fun_mk (st := sRN) l_read_names c_read_names k_read_names
  have b_read_names := F_read_names.binds (ps := ["given"]) fun _ _ _ _ _ _ us hl => match us, hl with | [_], _ => rfl
  have F_name := fun_mk (st := sJ) l_name c_name k_name
  have b_name := F_name.binds (ps := ["k", "p"]) fun _ _ _ _ _ _ us hl => match us, hl with | [_, _], _ => rfl
  refine ⟨PySem.W.fnOf "name" "name" (defArgs sJ) (defBody sJ) (defScope sJ) .none kV_name dc_name pm_name an_name cd_name ct_name, fun s us hu => match us, hu with | [_, _], _ => .of_eq rfl, fun base _ _ => ?_⟩
  have M_add_atom : MOk P w K mg base CX0 CB 1 "add_atom" ["self", "atoms"] (spBAdd CB) := ⟨_, _, ⟨a_B_add_atom, i_B_add_atom, k_B_add_atom⟩, b_B_add_atom, ok_badd F_B_add_atom TB⟩
  have M_repeat_atom : MOk P w K mg base CX0 CB 1 "repeat_atom" ["self", "times"] (spBRep CB) := ⟨_, _, ⟨a_B_repeat_atom, i_B_repeat_atom, k_B_repeat_atom⟩, b_B_repeat_atom, ok_brep F_B_repeat_atom TB⟩
  have M_end_row : MOk P w K mg base CX0 CB 1 "end_row" ["self"] (spBEnd CB) := ⟨_, _, ⟨a_B_end_row, i_B_end_row, k_B_end_row⟩, b_B_end_row, ok_bend F_B_end_row TB⟩
  have GBI : FnOk P w K mg base CX0 1 f_B_init _ ["self", "closing"] (spBInit CB) := ok_binit F_B_init TB
  have MB : Mk K CB f_B_init := ⟨mkB, a_B_init, i_B_init, kcB⟩
  have gB := PySem.W.mg_of X G aB
  have M_need_byte : MOk P w K mg base (L2.CX P w) C 2 "need_byte" ["self"] (spNeed K C CF) := ⟨_, _, ⟨a_R_need_byte, i_R_need_byte, k_R_need_byte⟩, b_R_need_byte, ok_need F_R_need_byte T⟩
  have M_at : MOk P w K mg base CX0 C 2 "at" ["self", "signs"] (spAt K C) := ⟨_, _, ⟨a_R_at, i_R_at, k_R_at⟩, b_R_at, ok_at F_R_at T⟩
  have M_take : MOk P w K mg base (L2.CX P w) C 3 "take" ["self", "signs"] (spTake K C CF) := ⟨_, _, ⟨a_R_take, i_R_take, k_R_take⟩, b_R_take, ok_take F_R_take T M_need_byte⟩
  have G_fb : FnOk P w K mg base CX0 2 f_following_bytes _ ["first"] spFB := ok_fb F_following_bytes
  have G_sa : GOk P w K mg base (L2.CX P w) 3 "scalar_at" ["given", "place"] (spSA K CF) := ⟨_, _, PySem.W.mg_of X G a_scalar_at, k_scalar_at, b_scalar_at, ok_sa F_scalar_at TS G_fb b_following_bytes⟩
  have G_ev : GOk P w K mg base CX0 2 "escape_value" ["sign"] spEsc := ⟨_, _, PySem.W.mg_of X G a_escape_value, k_escape_value, b_escape_value, ok_esc F_escape_value TE⟩
  have M_take_plain : MOk P w K mg base (L2.CX P w) C 4 "take_plain" ["self", "barred"] (spPlain K C CF) := ⟨_, _, ⟨a_R_take_plain, i_R_take_plain, k_R_take_plain⟩, b_R_take_plain, ok_plain F_R_take_plain T M_need_byte M_at G_sa⟩
  have M_take_escape : MOk P w K mg base (L2.CX P w) C 4 "take_escape" ["self", "escapes"] (spEscape K C CF) := ⟨_, _, ⟨a_R_take_escape, i_R_take_escape, k_R_take_escape⟩, b_R_take_escape, ok_escape F_R_take_escape T M_take G_ev⟩
  have M_take_one : MOk P w K mg base (L2.CX P w) C 5 "take_one" ["self", "escapes"] (spOne K C CF) := ⟨_, _, ⟨a_R_take_one, i_R_take_one, k_R_take_one⟩, b_R_take_one, ok_one F_R_take_one T ⟨_, PySem.W.mg_of X G v_SET_SIGNS⟩ M_at M_take_escape M_take_plain⟩
  have M_take_part : MOk P w K mg base (L2.CX P w) C 6 "take_part" ["self"] (spGo0 K C CF partE) := ⟨_, _, ⟨a_R_take_part, i_R_take_part, k_R_take_part⟩, b_R_take_part, ok_part F_R_take_part T ⟨_, PySem.W.mg_of X G v_PART_ESCAPES⟩ ⟨_, PySem.W.mg_of X G v_END_ESCAPES⟩ ⟨_, PySem.W.mg_of X G v_ENDS_IN_WRONG_ORDER⟩ M_at M_take_one M_take⟩
  have M_take_set : MOk P w K mg base (L2.CX P w) C 7 "take_set" ["self"] (spSet K C CF) := ⟨_, _, ⟨a_R_take_set, i_R_take_set, k_R_take_set⟩, b_R_take_set, ok_set F_R_take_set T M_at M_take_part M_take⟩
  have M_take_single_atom : MOk P w K mg base (L2.CX P w) C 8 "take_single_atom" ["self"] (spSingle K C CF) := ⟨_, _, ⟨a_R_take_single_atom, i_R_take_single_atom, k_R_take_single_atom⟩, b_R_take_single_atom, ok_single F_R_take_single_atom T ⟨_, PySem.W.mg_of X G v_ATOM_ESCAPES⟩ ⟨_, PySem.W.mg_of X G v_SIGNS⟩ M_at M_take_set M_take_escape M_take M_take_plain⟩
  have M_take_number : MOk P w K mg base (L2.CX P w) C 4 "take_number" ["self", "least"] (spNum K C CF) := ⟨_, _, ⟨a_R_take_number, i_R_take_number, k_R_take_number⟩, b_R_take_number, ok_num F_R_take_number T ⟨_, PySem.W.mg_of X G v_FIGURES⟩ ⟨_, PySem.W.mg_of X G v_MOST_TIMES⟩ ⟨_, PySem.W.mg_of X G v_NUMBER_OUT_OF_RANGE⟩ (PySem.W.mg_none_of X G v_int) M_at M_take M_need_byte⟩
  have M_take_braces : MOk P w K mg base (L2.CX P w) C 5 "take_braces" ["self"] (spBraces K C CF) := ⟨_, _, ⟨a_R_take_braces, i_R_take_braces, k_R_take_braces⟩, b_R_take_braces, ok_braces F_R_take_braces T (PySem.W.mg_none_of X G v_max) M_at M_take M_take_number⟩
  have M_take_repetition : MOk P w K mg base (L2.CX P w) C 6 "take_repetition" ["self"] (spRepS K C CB CF) := ⟨_, _, ⟨a_R_take_repetition, i_R_take_repetition, k_R_take_repetition⟩, b_R_take_repetition, ok_repS F_R_take_repetition T TB M_at M_take_braces M_take M_repeat_atom⟩
  have M_keep_name : MOk P w K mg base (L2.CX P w) C 2 "keep_name" ["self", "first_place"] (spKeep K C CB CF) := ⟨_, _, ⟨a_R_keep_name, i_R_keep_name, k_R_keep_name⟩, b_R_keep_name, ok_keep F_R_keep_name T ⟨_, PySem.W.mg_of X G v_LONGEST_NAME⟩ ⟨_, PySem.W.mg_of X G v_MOST_NAMES⟩ ⟨_, PySem.W.mg_of X G v_NAME_REFUSED⟩⟩
  have M_take_name : MOk P w K mg base (L2.CX P w) C 4 "take_name" ["self"] (spName K C CB CF) := ⟨_, _, ⟨a_R_take_name, i_R_take_name, k_R_take_name⟩, b_R_take_name, ok_name F_R_take_name T ⟨_, PySem.W.mg_of X G v_SMALL_LETTERS⟩ ⟨_, PySem.W.mg_of X G v_NAME_SIGNS⟩ M_at M_take M_need_byte M_keep_name⟩
  have M_take_opening : MOk P w K mg base (L2.CX P w) C 5 "take_opening" ["self"] (spOpen K C CB CF) := ⟨_, _, ⟨a_R_take_opening, i_R_take_opening, k_R_take_opening⟩, b_R_take_opening, ok_open F_R_take_opening T ⟨_, PySem.W.mg_of X G v_MOST_OPEN⟩ ⟨_, PySem.W.mg_of X G v_TOO_MANY_OPEN⟩ MB gB GBI b_B_init M_take M_take_name⟩
  have M_take_closing : MOk P w K mg base (L2.CX P w) C 4 "take_closing" ["self"] (spClose K C CB CF) := ⟨_, _, ⟨a_R_take_closing, i_R_take_closing, k_R_take_closing⟩, b_R_take_closing, ok_close F_R_take_closing T TB M_take M_add_atom⟩
  have M_take_next : MOk P w K mg base (L2.CX P w) C 9 "take_next" ["self"] (spNext K C CB CF) := ⟨_, _, ⟨a_R_take_next, i_R_take_next, k_R_take_next⟩, b_R_take_next, ok_next F_R_take_next T TB M_at M_take M_end_row M_take_opening M_take_closing M_take_repetition M_take_single_atom M_add_atom⟩
  have M_finish : MOk P w K mg base (L2.CX P w) C 2 "finish" ["self"] (spFin K C CB CF) := ⟨_, _, ⟨a_R_finish, i_R_finish, k_R_finish⟩, b_R_finish, ok_fin F_R_finish T TB ⟨_, PySem.W.mg_of X G v_MOST_ATOMS⟩ ⟨_, PySem.W.mg_of X G v_TOO_MANY_ATOMS⟩⟩
  have GRI : FnOk P w K mg base CX0 3 f_R_init _ ["self", "given"] (spRInit K C CB) := ok_rinit F_R_init T MB gB GBI b_B_init
  have G_rn : GOk P w K mg base (L2.CX P w) 10 "read_names" ["given"] (spRead K CF) := ⟨_, _, PySem.W.mg_of X G a_read_names, k_read_names, b_read_names, ok_read F_read_names T ⟨mkR, a_R_init, i_R_init, kcR⟩ (PySem.W.mg_of X G aR) GRI b_R_init M_take_next M_finish⟩
  exact ok_nameC F_name T.len FT ⟨_, PySem.W.mg_of X G v_LONGEST_PATTERN⟩ ⟨_, PySem.W.mg_of X G v_TOO_LONG⟩ ⟨_, PySem.W.mg_of X G v_NOT_IN_FORM⟩ ⟨_, PySem.W.mg_of X G v_NOT_THERE⟩ G_rn
end Pat
end

section
namespace Pat
open PySem PySem.Spec PyProof.Rows L2
open PySem.W (Codec)
theorem text_gv : ∀ ns : List Int, (∀ x ∈ ns, 0 ≤ x ∧ x ≤ 255) → gv (Neutral.text ns) = ns.map V.int
  | [], _ => rfl
  | n :: r, h => by
    have h1 := h n (List.mem_cons_self ..)
    have ih := text_gv r fun x m => h x (List.mem_cons_of_mem _ m)
    show V.int (((UInt8.ofNat n.toNat).toNat : Nat) : Int) :: gv (Neutral.text r) = V.int n :: r.map V.int
    rw [ih]
    have e : (UInt8.ofNat n.toNat).toNat = n.toNat := by
      rw [UInt8.toNat_ofNat']
      omega
    have e2 : ((n.toNat : Nat) : Int) = n := Int.toNat_of_nonneg h1.1
    rw [e, e2]
theorem text_len (ns : List Int) : (Neutral.text ns).length = ns.length := List.length_map _
theorem name_is (k : Int) (ns : List Int) : PyWrpatt.name k ns = nameL k (Neutral.text ns) := by
  show Neutral.told (PatSpec.answer (.name (Neutral.text ns) k)) = _
  unfold PatSpec.answer nameL
  dsimp only
  by_cases c : 128 < (Neutral.text ns).length
  · rw [if_pos c, if_pos (show PatWords.PATTERN < (Neutral.text ns).length from c)]
    rfl
  · rw [if_neg c, if_neg (show ¬ PatWords.PATTERN < (Neutral.text ns).length from c)]
    cases PatWords.read (Neutral.text ns) with
    | error e => rfl
    | ok y =>
      obtain ⟨pt, l⟩ := y
      dsimp only
      by_cases c1 : k < 0
      · rw [if_pos c1, if_pos c1]
        rfl
      · rw [if_neg c1, if_neg c1]
        cases l[k.toNat]? with
        | none => rfl
        | some n => rfl
end Pat
open PySem PySem.W PyProof.Rows
theorem PySem.Challenge.cw_toldpatterns_s02_name_holds : PySem.Challenge.rw_toldpatterns_s02_name.Holds := by
  w_on; k_headS; (case hw => exact ⟨[.int 0, .list []], by decide +kernel, by decide +kernel⟩)
  k_fillS
  refine L2.walk_specK (r := PySem.Challenge.rw_toldpatterns_s02_name) (k := 11) (CX := L2.CX0) (ps := ["k", "p"]) (sp := Pat.spNameC) (by decide +kernel) rfl rfl ⟨rfl, by decide, by decide⟩ (fun w h Y => PySem.W.kIn_of Y) ?F ?S (fun _ _ _ _ z => z)
  case F =>
    intro w mg fa h Y KX G hmg
    refine' Pat.all_mk KX G hmg ?aR ?pgR ?hdR ?poR ?saR ?mkR ?kcR ?nR_given ?nR_place ?nR_names ?nR_brackets ?a_R_init ?i_R_init ?l_R_init ?c_R_init ?k_R_init ?a_R_need_byte ?i_R_need_byte ?l_R_need_byte ?c_R_need_byte ?k_R_need_byte ?a_R_at ?i_R_at ?l_R_at ?c_R_at ?k_R_at ?a_R_take ?i_R_take ?l_R_take ?c_R_take ?k_R_take ?a_R_take_plain ?i_R_take_plain ?l_R_take_plain ?c_R_take_plain ?k_R_take_plain ?a_R_take_escape ?i_R_take_escape ?l_R_take_escape ?c_R_take_escape ?k_R_take_escape ?a_R_take_one ?i_R_take_one ?l_R_take_one ?c_R_take_one ?k_R_take_one ?a_R_take_part ?i_R_take_part ?l_R_take_part ?c_R_take_part ?k_R_take_part ?a_R_take_set ?i_R_take_set ?l_R_take_set ?c_R_take_set ?k_R_take_set ?a_R_take_single_atom ?i_R_take_single_atom ?l_R_take_single_atom ?c_R_take_single_atom ?k_R_take_single_atom ?a_R_take_number ?i_R_take_number ?l_R_take_number ?c_R_take_number ?k_R_take_number ?a_R_take_braces ?i_R_take_braces ?l_R_take_braces ?c_R_take_braces ?k_R_take_braces ?a_R_take_repetition ?i_R_take_repetition ?l_R_take_repetition ?c_R_take_repetition ?k_R_take_repetition ?a_R_keep_name ?i_R_keep_name ?l_R_keep_name ?c_R_keep_name ?k_R_keep_name ?a_R_take_name ?i_R_take_name ?l_R_take_name ?c_R_take_name ?k_R_take_name ?a_R_take_opening ?i_R_take_opening ?l_R_take_opening ?c_R_take_opening ?k_R_take_opening ?a_R_take_closing ?i_R_take_closing ?l_R_take_closing ?c_R_take_closing ?k_R_take_closing ?a_R_take_next ?i_R_take_next ?l_R_take_next ?c_R_take_next ?k_R_take_next ?a_R_finish ?i_R_finish ?l_R_finish ?c_R_finish ?k_R_finish ?aB ?pgB ?hdB ?poB ?saB ?mkB ?kcB ?nB_closing ?nB_atoms ?nB_last_atom ?a_B_init ?i_B_init ?l_B_init ?c_B_init ?k_B_init ?a_B_add_atom ?i_B_add_atom ?l_B_add_atom ?c_B_add_atom ?k_B_add_atom ?a_B_repeat_atom ?i_B_repeat_atom ?l_B_repeat_atom ?c_B_repeat_atom ?k_B_repeat_atom ?a_B_end_row ?i_B_end_row ?l_B_end_row ?c_B_end_row ?k_B_end_row ?a_following_bytes ?l_following_bytes ?c_following_bytes ?k_following_bytes ?a_scalar_at ?l_scalar_at ?c_scalar_at ?k_scalar_at ?a_escape_value ?l_escape_value ?c_escape_value ?k_escape_value ?a_read_names ?l_read_names ?c_read_names ?k_read_names ?a_name ?l_name ?c_name ?k_name ?aC ?xL ?saF ?gaF ?ggF ?nbF ?npF ?a1F ?t1F ?l1F ?c1F ?kCF ?eCF ?tCF ?hCF ?iCF ?sCF ?v_ENDS_TOO_SOON ?v_CANNOT_STAND ?v_NUMBER_OUT_OF_RANGE ?v_NAME_REFUSED ?v_TOO_MANY_OPEN ?v_ENDS_IN_WRONG_ORDER ?v_TOO_MANY_ATOMS ?v_MOST_TIMES ?v_MOST_NAMES ?v_LONGEST_NAME ?v_MOST_OPEN ?v_MOST_ATOMS ?v_LONGEST_PATTERN ?v_TOO_LONG ?v_NOT_IN_FORM ?v_NOT_THERE ?v_FIGURES ?v_SMALL_LETTERS ?v_NAME_SIGNS ?v_SIGNS ?v_SET_SIGNS ?v_END_ESCAPES ?v_PART_ESCAPES ?v_ATOM_ESCAPES ?v_VALUELESS_ESCAPES ?v_len ?v_ord ?v_range ?v_int ?v_max ?dL ?dLl ?dH ?dHl ?dC ?dCl ?dM ?dMl ?lo1 ?lo2 ?lo3
    (case aR => k_is)
    (case pgR => k_is)
    (case hdR => k_is)
    (case poR => k_is)
    (case saR => k_is)
    (case mkR => k_is)
    (case kcR => k_is)
    (case nR_given => k_is)
    (case nR_place => k_is)
    (case nR_names => k_is)
    (case nR_brackets => k_is)
    (case a_R_init => k_is)
    (case i_R_init => k_is)
    (case l_R_init => k_is)
    (case c_R_init => k_is)
    (case k_R_init => k_is)
    (case a_R_need_byte => k_is)
    (case i_R_need_byte => k_is)
    (case l_R_need_byte => k_is)
    (case c_R_need_byte => k_is)
    (case k_R_need_byte => k_is)
    (case a_R_at => k_is)
    (case i_R_at => k_is)
    (case l_R_at => k_is)
    (case c_R_at => k_is)
    (case k_R_at => k_is)
    (case a_R_take => k_is)
    (case i_R_take => k_is)
    (case l_R_take => k_is)
    (case c_R_take => k_is)
    (case k_R_take => k_is)
    (case a_R_take_plain => k_is)
    (case i_R_take_plain => k_is)
    (case l_R_take_plain => k_is)
    (case c_R_take_plain => k_is)
    (case k_R_take_plain => k_is)
    (case a_R_take_escape => k_is)
    (case i_R_take_escape => k_is)
    (case l_R_take_escape => k_is)
    (case c_R_take_escape => k_is)
    (case k_R_take_escape => k_is)
    (case a_R_take_one => k_is)
    (case i_R_take_one => k_is)
    (case l_R_take_one => k_is)
    (case c_R_take_one => k_is)
    (case k_R_take_one => k_is)
    (case a_R_take_part => k_is)
    (case i_R_take_part => k_is)
    (case l_R_take_part => k_is)
    (case c_R_take_part => k_is)
    (case k_R_take_part => k_is)
    (case a_R_take_set => k_is)
    (case i_R_take_set => k_is)
    (case l_R_take_set => k_is)
    (case c_R_take_set => k_is)
    (case k_R_take_set => k_is)
    (case a_R_take_single_atom => k_is)
    (case i_R_take_single_atom => k_is)
    (case l_R_take_single_atom => k_is)
    (case c_R_take_single_atom => k_is)
    (case k_R_take_single_atom => k_is)
    (case a_R_take_number => k_is)
    (case i_R_take_number => k_is)
    (case l_R_take_number => k_is)
    (case c_R_take_number => k_is)
    (case k_R_take_number => k_is)
    (case a_R_take_braces => k_is)
    (case i_R_take_braces => k_is)
    (case l_R_take_braces => k_is)
    (case c_R_take_braces => k_is)
    (case k_R_take_braces => k_is)
    (case a_R_take_repetition => k_is)
    (case i_R_take_repetition => k_is)
    (case l_R_take_repetition => k_is)
    (case c_R_take_repetition => k_is)
    (case k_R_take_repetition => k_is)
    (case a_R_keep_name => k_is)
    (case i_R_keep_name => k_is)
    (case l_R_keep_name => k_is)
    (case c_R_keep_name => k_is)
    (case k_R_keep_name => k_is)
    (case a_R_take_name => k_is)
    (case i_R_take_name => k_is)
    (case l_R_take_name => k_is)
    (case c_R_take_name => k_is)
    (case k_R_take_name => k_is)
    (case a_R_take_opening => k_is)
    (case i_R_take_opening => k_is)
    (case l_R_take_opening => k_is)
    (case c_R_take_opening => k_is)
    (case k_R_take_opening => k_is)
    (case a_R_take_closing => k_is)
    (case i_R_take_closing => k_is)
    (case l_R_take_closing => k_is)
    (case c_R_take_closing => k_is)
    (case k_R_take_closing => k_is)
    (case a_R_take_next => k_is)
    (case i_R_take_next => k_is)
    (case l_R_take_next => k_is)
    (case c_R_take_next => k_is)
    (case k_R_take_next => k_is)
    (case a_R_finish => k_is)
    (case i_R_finish => k_is)
    (case l_R_finish => k_is)
    (case c_R_finish => k_is)
    (case k_R_finish => k_is)
    (case aB => k_is)
    (case pgB => k_is)
    (case hdB => k_is)
    (case poB => k_is)
    (case saB => k_is)
    (case mkB => k_is)
    (case kcB => k_is)
    (case nB_closing => k_is)
    (case nB_atoms => k_is)
    (case nB_last_atom => k_is)
    (case a_B_init => k_is)
    (case i_B_init => k_is)
    (case l_B_init => k_is)
    (case c_B_init => k_is)
    (case k_B_init => k_is)
    (case a_B_add_atom => k_is)
    (case i_B_add_atom => k_is)
    (case l_B_add_atom => k_is)
    (case c_B_add_atom => k_is)
    (case k_B_add_atom => k_is)
    (case a_B_repeat_atom => k_is)
    (case i_B_repeat_atom => k_is)
    (case l_B_repeat_atom => k_is)
    (case c_B_repeat_atom => k_is)
    (case k_B_repeat_atom => k_is)
    (case a_B_end_row => k_is)
    (case i_B_end_row => k_is)
    (case l_B_end_row => k_is)
    (case c_B_end_row => k_is)
    (case k_B_end_row => k_is)
    (case a_following_bytes => k_is)
    (case l_following_bytes => k_is)
    (case c_following_bytes => k_is)
    (case k_following_bytes => k_is)
    (case a_scalar_at => k_is)
    (case l_scalar_at => k_is)
    (case c_scalar_at => k_is)
    (case k_scalar_at => k_is)
    (case a_escape_value => k_is)
    (case l_escape_value => k_is)
    (case c_escape_value => k_is)
    (case k_escape_value => k_is)
    (case a_read_names => k_is)
    (case l_read_names => k_is)
    (case c_read_names => k_is)
    (case k_read_names => k_is)
    (case a_name => k_is)
    (case l_name => k_is)
    (case c_name => k_is)
    (case k_name => k_is)
    (case aC => k_is)
    (case xL => k_is)
    (case saF => k_is)
    (case gaF => k_is)
    (case ggF => k_is)
    (case nbF => k_is)
    (case npF => k_is)
    (case a1F => k_is)
    (case t1F => k_is)
    (case l1F => k_is)
    (case c1F => k_is)
    (case kCF => k_is)
    (case eCF => k_is)
    (case tCF => k_is)
    (case hCF => k_is)
    (case iCF => k_is)
    (case sCF => first | rfl | k_is)
    (case v_ENDS_TOO_SOON => k_is)
    (case v_CANNOT_STAND => k_is)
    (case v_NUMBER_OUT_OF_RANGE => k_is)
    (case v_NAME_REFUSED => k_is)
    (case v_TOO_MANY_OPEN => k_is)
    (case v_ENDS_IN_WRONG_ORDER => k_is)
    (case v_TOO_MANY_ATOMS => k_is)
    (case v_MOST_TIMES => k_is)
    (case v_MOST_NAMES => k_is)
    (case v_LONGEST_NAME => k_is)
    (case v_MOST_OPEN => k_is)
    (case v_MOST_ATOMS => k_is)
    (case v_LONGEST_PATTERN => k_is)
    (case v_TOO_LONG => k_is)
    (case v_NOT_IN_FORM => k_is)
    (case v_NOT_THERE => k_is)
    (case v_FIGURES => k_is)
    (case v_SMALL_LETTERS => k_is)
    (case v_NAME_SIGNS => k_is)
    (case v_SIGNS => k_is)
    (case v_SET_SIGNS => k_is)
    (case v_END_ESCAPES => k_is)
    (case v_PART_ESCAPES => k_is)
    (case v_ATOM_ESCAPES => k_is)
    (case v_VALUELESS_ESCAPES => k_is)
    (case v_len => k_is)
    (case v_ord => k_is)
    (case v_range => k_is)
    (case v_int => k_is)
    (case v_max => k_is)
    (case dL => k_is)
    (case dLl => k_is)
    (case dH => k_is)
    (case dHl => k_is)
    (case dC => k_is)
    (case dCl => k_is)
    (case dM => k_is)
    (case dMl => k_is)
    (case lo1 => decide +kernel)
    (case lo2 => decide +kernel)
    (case lo3 => decide +kernel)
  case S =>
    intro K H xs a hO hwi hask hx
    cases hx with
    | cons h1 h2 =>
      cases h2 with
      | cons h3 h4 =>
        cases h4
        cases h1
        cases h3 with
        | lst hs ha =>
          have e := L2.ints_dw a.2.1 _ ha
          subst e
          have q : (Codec.inInt (-1000000000000000000) 1000000000000000000 a.1 && ((Codec.inLen 0 1000 a.2.1 && a.2.1.all (Codec.inInt 0 255)) && true)) = true := hwi
          rw [Bool.and_eq_true, Bool.and_eq_true, Bool.and_eq_true] at q
          have hb : ∀ x ∈ a.2.1, 0 ≤ x ∧ x ≤ 255 := fun x m => Codec.inInt_iff.mp (List.all_eq_true.mp q.2.1.2 x m)
          rw [← Pat.text_gv a.2.1 hb] at hs
          refine ⟨_, Neutral.text a.2.1, a.1, rfl, hs, ?_, fun H' p hp => ?_⟩
          · rw [Pat.text_len]
            exact (Codec.inNat_iff.mp q.2.1.1).2
          · rw [← Pat.name_is] at hp
            exact .lst (L2.SqL.of hp) (L2.dw_ints _)
#print axioms PySem.Challenge.cw_toldpatterns_s02_name_holds
end
