import PyProof.Rows.All
import Wide.All
import OpenK.AllK
import Wide.FinOn
import PyProof.EqAt
import PyProof.EqKinds
import PyProof.TupleCall
import Open.SpecLaws
import KE.OsGo
import KE.KFromBytes
import HandS.ForMost
import HandS.ForSpec
import HandS.ExcInit
import HandS.ExcField
import HandS.ExcSuper
import HandS.IsInst
import PySem.Challenge.RW_partpacks_s01_answers
import VakepeSpec
import HandS.Walk
import PyProof.AutoSeq1
import PyProof.Walk
import HandS.SortInts
import HandS.ExcOwn
import PyVakepe
import KE.OsHead
section
set_option Elab.async false
set_option linter.all false
set_option maxRecDepth 100000
set_option maxHeartbeats 2000000
/-! Fault, an error of the program's own with two fields. -/
namespace PySem
namespace FaultX
open PySem.W PySem.Calls PyProof.Rows PySem.HandSPX
def fA (p1 p2 p3 : Pos) : Arguments := { posonlyargs := [], args := [{ arg := "self", annotation := none, pos := p1 }, { arg := "code", annotation := none, pos := p2 }, { arg := "place", annotation := none, pos := p3 }], vararg := none, kwonlyargs := [], kw_defaults := [], kwarg := none, defaults := [] }
def fB (q1 q2 q3 q4 r1 r2 r3 r4 : Pos) : List Stmt := [.Assign [.Attribute (.Name "self" q1) "code" q2] (.Name "code" q3) q4, .Assign [.Attribute (.Name "self" r1) "place" r2] (.Name "place" r3) r4]
def fS : Scope := { kind := .function, names := [(PySem.Str.ofString "self", .local), (PySem.Str.ofString "code", .local), (PySem.Str.ofString "place", .local)], isGenerator := false, isCoroutine := false, more := [] }
structure FTxt (K : Frag) (mg : Str → Option Value) (C fI : Addr) : Prop where
  gC : mg "Fault" = some (.ref C)
  cls : ∃ nm q N bs bm sn sub ab col dd k0 k1 k2 k3 k5, K.lookup C = some (excClassObj nm q C N bs bm true sn sub ab col dd k0 k1 k2 k3 k5 "Exception.__new__") ∧ bm = [.type "Exception", .type "BaseException", .type "object"]
  sa : findIn K (.ref C) "__setattr__" = some (some (.builtin "object.__setattr__"))
  ga : findIn K (.ref C) "__getattribute__" = some (some (.builtin "BaseException.__getattribute__"))
  gg : findIn K (.ref C) "__getattr__" = some none
  noC : findIn K (.ref C) "code" = some none
  noP : findIn K (.ref C) "place" = some none
  iC : findIn K (.ref C) "__init__" = some (some (.ref fI))
  tC : typeIn K (.ref fI) = some (.type "function")
  kC : keepIn K (.ref C) = true
  exC : subIn K (.ref C) (.type "BaseException") = some true
  tyC : typeIn K (.ref C) = some (.type "type")
  hdC : hasDictIn K C = true
  te : exmOne K (.ref C) (.ref C) = some true
  fn : ∃ (oc : Value) (od : Option Addr) (doc pm : Value) (an : Option Addr) (cdv ct : Value) (osl : Array (Option Value)) (p1 p2 p3 q1 q2 q3 q4 r1 r2 r3 r4 : Pos),
    K.lookup fI = some ⟨oc, od, .func (fnOf "__init__" "Fault.__init__" (fA p1 p2 p3) (fB q1 q2 q3 q4 r1 r2 r3 r4) fS .none .none doc pm an cdv ct), osl⟩ ∧ codeIn K cdv "Fault.__init__" = true
theorem two_size (v u : Value) : [v, u].length ≤ sizeLine := by
  rw [sizeLine_eq]
  exact (by decide : 2 ≤ 16777216)
theorem ldC {M : Model} {s : Shared} {name : Str} {scope : Scope} {L a : Addr} {cd : Value} {m : Str → Option Value} {x : Str} {pos : Pos} {v : Value} {Q : Value → Shared → Prop} {A : Around} {E : Value → Shared → Prop} (hn : s.heap.Ns L m) (hv : m x = some v) (h : Q v s)
    (hk : scope.kind = .function := by rfl) (hl : (envOfC name scope L a cd).kindOf x = some .local := by rfl) (hd : (x == ("__debug__" : Str)) = false := by decide) :
    wpAny M A (eval (.Name x pos) (envOfC name scope L a cd)) Q E s := wpAny_Name (wpAny_loadName_local hk hl hn hv h) hd
def two (v u : Value) : Str → Option Value := fun y => if y = "place" then some u else if y = "code" then some v else none
/-- what __init__ leaves of a fresh exception at x -/
structure InitEnd (h h' : Heap) (x C dx t1 : Addr) (v u : Value) : Prop where
  keep : ∀ b o, b ≠ x → h.get? b = some o → h'.get? b = some o
  obj : h'.get? x = some { cls := .ref C, dict := some dx, data := .fields #[.ref t1, .none, .none, .none, .bool false, .none] }
  dbig : h.objs.size ≤ dx
  dne : dx ≠ x
  ns : h'.Ns1 dx (two v u)
structure OwnMade (h h' : Heap) (e C d : Addr) (v u : Value) : Prop where
  keep : ∀ b o, h.get? b = some o → h'.get? b = some o
  new : h.objs.size ≤ e
  obj : ∃ oe vs, h'.get? e = some oe ∧ oe.cls = .ref C ∧ oe.dict = some d ∧ oe.data = .fields vs ∧ vs[1]? = some .none
  dbig : h.objs.size ≤ d
  dne : d ≠ e
  ns : h'.Ns1 d (two v u)
section
variable {prog : Program} {w : World} {A : Around} {E : Value → Shared → Prop} {R : Result → Shared → Prop} {s : Shared} {K : Frag} {mg : Str → Option Value} {C fI : Addr}
theorem f_init (T : FTxt K mg C fI) {x t0 : Addr} {v u : Value} (X : K.In s.heap) (hlim : s.heap.NoLimit) (hx : s.heap.get? x = some (excO C t0)) (hnx : K.lookup x = none) (hroom : A.depth < recursionLimit)
    (hq : ∀ h' tk dx, InitEnd s.heap h' x C dx t0 v u → R (.ok (.ret .none)) { s with heap := h', toks := tk }) :
    codeAny (model prog w) A (.call (.ref fI) ⟨[.ref x, v, u], []⟩) R s := by
  obtain ⟨oc, od, doc, pm, an, cdv, ct, osl, p1, p2, p3, q1, q2, q3, q4, r1, r2, r3, r4, ho, hcd⟩ := T.fn
  obtain ⟨nm, q, N, bs, bm, sn, sub, ab, col, dd, k0, k1, k2, k3, k5, hC, hbm0⟩ := T.cls
  subst hbm0
  have hcl : clsIn K C = some { name := nm, bases := bs, mro := .ref C :: ESX.exTail, ns := N, qualname := q, hasDict := true, slotNames := sn, subclasses := sub, abstract := ab, collection := col, hasDel := false } := by unfold clsIn; rw [hC] <;> rfl
  refine Att.call_fn (binds := [("self", .ref x), ("code", v), ("place", u)]) X hlim ho hcd hroom (BindsTo.of_eq (by first | rfl | with_unfolding_all rfl)) (by first | rfl | decide | with_unfolding_all rfl) (fun s₁ IC => ?_) rfl rfl rfl
  obtain ⟨h₁, tk₁, rfl⟩ := IC.toInCall.same
  have k : ∀ b o, s.heap.get? b = some o → h₁.get? b = some o := IC.toInCall.keep
  have hn := IC.toInCall.ns
  have hxL : s.heap.objs.size ≠ x := Nat.ne_of_gt (Heap.lt_size hx)
  have X₁ : K.In h₁ := X.keeps k
  have hx₁ := k _ _ hx
  show wpAny _ _ (execs _ _) _ _ _
  refine wpAny_execs_cons (plainObj_wpAny_Assign_Attribute ?_)
  refine ldC (v := v) hn (by first | rfl | with_unfolding_all rfl | kernel_rfl) (ldC (v := .ref x) hn (by first | rfl | with_unfolding_all rfl | kernel_rfl) ?_)
  refine set_plain X₁ (ox := excO C t0) (od := none) ⟨hx₁, rfl, rfl, trivial⟩ T.sa ?_
  refine PySem.ESX.osa_new X₁ hx₁ hcl rfl rfl T.noC (fun h₃ tk₃ dx k₃ dn dne hx₃ hn₃ => ?_)
  have X₃ : K.In h₃ := fun a o e => k₃ a o (fun z => by rw [z, hnx] at e; cases e) (X₁ a o e)
  have hn3 : h₃.Ns s.heap.objs.size _ := hn.at fun o q => k₃ _ o hxL q
  obtain ⟨oD, _, _, hoD, _, _⟩ := hn₃.count (Within.cons "code" v Within.nil)
  refine wpAny_execs_cons (plainObj_wpAny_Assign_Attribute ?_)
  refine ldC (v := u) hn3 (by first | rfl | with_unfolding_all rfl | kernel_rfl) (ldC (v := .ref x) hn3 (by first | rfl | with_unfolding_all rfl | kernel_rfl) ?_)
  refine set_plain X₃ (ox := { cls := .ref C, dict := some dx, data := .fields #[.ref t0, .none, .none, .none, .bool false, .none] }) (od := some oD) ⟨hx₃, rfl, rfl, hoD⟩ T.sa ?_
  refine PySem.ESX.osa_old X₃ hx₃ hn₃ (Within.cons "code" v Within.nil) (by simp) hcl rfl rfl T.noP (fun h₅ tk₅ k₅ hn₅ => ?_)
  show wpAny _ _ (execs _ _) _ _ _
  have z : s.heap.objs.size < h₁.objs.size := hn.lt
  have dnn : ∀ {b : Addr} {o : Obj}, s.heap.get? b = some o → b ≠ dx := fun {b o} e => Nat.ne_of_lt (Nat.lt_of_lt_of_le (Heap.lt_size e) (Nat.le_of_lt (Nat.lt_of_lt_of_le z dn)))
  exact wpAny_execs_nil (hq h₅ tk₅ dx ⟨fun b o hb e => k₅ b o (dnn e) (k₃ b o hb (k b o e)), k₅ _ _ (Ne.symm dne) hx₃, Nat.le_of_lt (Nat.lt_of_lt_of_le z dn), dne, hn₅⟩)
theorem f_made (T : FTxt K mg C fI) {v u : Value} (X : K.In s.heap) (hlim : s.heap.NoLimit) (hroom : A.depth + 1 < recursionLimit)
    (hq : ∀ h' tk e d, OwnMade s.heap h' e C d v u → R (.ok (.ret (.ref e))) { s with heap := h', toks := tk }) :
    codeAny (model prog w) A (.call (.ref C) ⟨[v, u], []⟩) R s := by
  obtain ⟨nm, q, N, bs, bm, sn, sub, ab, col, dd, k0, k1, k2, k3, k5, hC, rfl⟩ := T.cls
  obtain ⟨hp, g, dr, tk, os⟩ := s
  have k : ∀ b o, hp.get? b = some o → ((hp.push (kdv_tup [v, u])).push (excO C hp.objs.size)).get? b = some o := fun b o e => Heap.get?_push_of_some _ (Heap.get?_push_of_some _ e)
  have hget : ((hp.push (kdv_tup [v, u])).push (excO C hp.objs.size)).get? (hp.objs.size + 1) = some (excO C hp.objs.size) := by heap_get
  have hnx : K.lookup (hp.objs.size + 1) = none := by
    cases e : K.lookup (hp.objs.size + 1) with
    | none => rfl
    | some o =>
      have z : hp.get? (hp.objs.size + 1) = some o := X _ _ e
      exact absurd (Nat.lt_of_succ_lt (Heap.lt_size z)) (Nat.lt_irrefl _)
  refine call_own F.excBase_Exception (fun Y => rfl) (X _ _ hC) (looks_findIn X T.iC) (fun self => bind_fn X self T.tC) (two_size v u) ?_
  refine f_init (s := ⟨(hp.push (kdv_tup [v, u])).push (excO C hp.objs.size), g, dr, tk, os⟩) T (X.keeps k) (hlim.keeps k) hget hnx ?_ fun h' tk' dx ⟨k', hx, dn, dne, hns⟩ => ?_
  · show A.depth + 1 < recursionLimit
    exact hroom
  · have old : ∀ b o, hp.get? b = some o → h'.get? b = some o := fun b o e => k' b o (Nat.ne_of_lt (Nat.lt_succ_of_lt (Heap.lt_size e))) (k b o e)
    have z : hp.objs.size + 1 + 1 ≤ dx := by
      first
        | (simpa only [Heap.size_push] using dn)
        | exact dn
        | (have q := dn; rw [Heap.size_push, Heap.size_push] at q; exact q)
    exact ⟨rfl, hq h' tk' (hp.objs.size + 1) dx ⟨old, Nat.le_succ _, ⟨_, _, hx, rfl, rfl, rfl, rfl⟩, Nat.le_trans (Nat.le_trans (Nat.le_succ _) (Nat.le_succ _)) z, dne, hns⟩⟩
end
end FaultX
end PySem
namespace L2
open PySem PySem.Spec PyProof.Rows
/-- a fault's own dict -/
def fxd (c p : V) : List (Str × V) := [(("code" : Str), c), (("place" : Str), p)]
theorem relO_two {v u : V} {v' u' : Value} (r : RelV v v') (q : RelV u u') (f : Str) : RelO (List.lookup f (fxd v u)) (PySem.FaultX.two v' u' f) := by
  unfold fxd PySem.FaultX.two
  by_cases hp : f = "place"
  · subst hp
    rw [if_pos rfl]
    have e : List.lookup ("place" : Str) [(("code" : Str), v), (("place" : Str), u)] = some u := by
      have : (("place" : Str) == "code") = false := by decide
      simp [List.lookup, this]
    rw [e]
    exact q
  · rw [if_neg hp]
    by_cases hc : f = "code"
    · subst hc
      rw [if_pos rfl]
      have e : List.lookup ("code" : Str) [(("code" : Str), v), (("place" : Str), u)] = some v := by simp [List.lookup]
      rw [e]
      exact r
    · rw [if_neg hc]
      have q1 : (f == ("code" : Str)) = false := by simpa using hc
      have q2 : (f == ("place" : Str)) = false := by simpa using hp
      have e : List.lookup f [(("code" : Str), v), (("place" : Str), u)] = none := by simp [List.lookup, q1, q2]
      rw [e]
      trivial
section
variable {X : Cx} {C fI : Addr}
/-- Fault(c, p) -/
def tMkF (C : Addr) (ta : TA) : St → Hp → XK → Prop := fun σ H Q => ta σ H fun vs H1 => ∃ c p, vs = [c, p] ∧ ∀ d, H1 d = none → Q (.ref C) (some d) (upd H1 d (.xd (fxd c p)))
theorem pmk_fault {a b : Expr} {ta : TA} {p pos : Pos} {k : Nat} (T : PySem.FaultX.FTxt X.K X.mg C fI) (hr : Room k X.A) (ha : PA X [a, b] ta) (hg : Gl X "Fault" := by rfl)
    (he : starEach (a :: [b]) X.env = (false, eval a X.env) :: starEach [b] X.env := by rfl) (hpl : (backTo pos (starEach [b] X.env)).any (·.1) = false := by rfl) :
    PMk X (.Call (.Name "Fault" p) [a, b] [] pos) (tMkF C ta) := by
  intro pins s σ H Q I h
  refine wpAny_Call_Name_kw (ld_glob I hg T.gC ?_)
  refine PySem.W.callWith_K (h₀ := X.base) I.ok.mod.kin T.kC (thn (ha.run pos pins s σ H _ I h) fun us s1 hh => ?_) he hpl
  obtain ⟨vs, H1, I1, r1, v, u, ev, q1⟩ := hh
  subst ev
  refine ⟨I1.kIn, ?_⟩
  cases r1 with
  | cons rv rn =>
    rename_i v' us'
    cases rn with
    | cons ru rn2 =>
      rename_i u' us2
      cases rn2
      show wpAny _ _ (call (.ref C) [v', u']) _ _ _
      have hlim := I1.nolimit
      obtain ⟨hp, g, dr, tk, os⟩ := s1
      refine wpAny_call (PySem.FaultX.f_made T I1.kIn hlim (by have := hr.dp; omega) fun h' tk' e d M => ?_)
      show MkP X pins σ Q (.ref e) ⟨h', g, dr, tk', os⟩
      obtain ⟨oe, fv, hoe, hc, hd, hdat, h1⟩ := M.obj
      have hns := M.ns
      obtain ⟨G', g1, g2⟩ := restrict h' fun b => decide (b ≠ e)
      have gk : ∀ b, b ≠ e → G'.get? b = h'.get? b := fun b hb => g1 b (decide_eq_true hb)
      have ge : G'.get? e = none := g2 e (by simp)
      have old : ∀ b o, hp.get? b = some o → G'.get? b = some o := fun b o q => (gk b (Nat.ne_of_lt (Nat.lt_of_lt_of_le (Heap.lt_size q) M.new))).trans (M.keep b o q)
      have ob : ObjOk X.prog X.w (upd H1 d (.xd (fxd v u))) G' d (.xd (fxd v u)) :=
        ⟨_, hns.at (fun o q => (gk d M.dne).trans q), fun f => relO_two rv ru f⟩
      have J : Inv X pins σ (upd H1 d (.xd (fxd v u))) ⟨G', g, dr, tk', os⟩ := I1.laid (t' := tk') old M.dbig ob
      refine ⟨e, oe, fv, ⟨G', g, dr, tk', os⟩, _, .ref C, some d, rfl, J, fun b o q => ?_, ge, hoe, ⟨hc, hd⟩, hdat, h1, ?_, rfl, I1.bare, raises_own T.exC T.tyC, q1 d (I1.hok.fresh M.dbig)⟩
      · by_cases hb : b = e
        · have q' : G'.get? b = some o := q
          rw [hb, ge] at q'; cases q'
        · exact (gk b hb).symm.trans q
      · rw [upd_ne (Ne.symm M.dne)]
        exact I1.hok.fresh M.new
/-- raise Fault(c, p) -/
def tRaiseF (C : Addr) (W : WX) (ta : TA) : TS := fun _ σ H => tMkF C ta σ H fun cls d H' => W cls d σ H'
theorem ps_raiseF {a b : Expr} {ta : TA} {W : WX} {p pos pos2 : Pos} {k : Nat} (hc : X.calm = true) (T : PySem.FaultX.FTxt X.K X.mg C fI) (hr : Room k X.A) (tk : Takes X W) (ha : PA X [a, b] ta) (hg : Gl X "Fault" := by rfl)
    (he : starEach (a :: [b]) X.env = (false, eval a X.env) :: starEach [b] X.env := by rfl) (hpl : (backTo pos (starEach [b] X.env)).any (·.1) = false := by rfl) :
    PS X (.Raise (some (.Call (.Name "Fault" p) [a, b] [] pos)) none pos2) (tRaiseF C W ta) := ps_raise hc tk (pmk_fault T hr ha hg he hpl)
end
end L2
end
section
set_option Elab.async false
set_option linter.all false
set_option maxRecDepth 100000
set_option maxHeartbeats 4000000
namespace Pk
open PySem PySem.Spec PyProof.Rows L2
open PySem.W (Codec)
/-! ### the text by places -/
def top (i : Nat) : Stmt := PySem.Challenge.pw_partpacks_s01_answers.main.body.getD i (.Pass ⟨0, 0, 0, 0⟩)
abbrev s_Fault_init : Stmt := inClass (top 10) 0
abbrev s_pack_sizes : Stmt := top 13
abbrev s_loads_of : Stmt := top 14
abbrev s_run_cost : Stmt := top 15
abbrev s_all_costs : Stmt := top 16
abbrev s_plans_for : Stmt := top 19
abbrev s_best_plan : Stmt := top 20
abbrev s_Say_init : Stmt := inClass (top 22) 0
abbrev s_Call_init : Stmt := inClass (top 23) 0
abbrev s_Make_init : Stmt := inClass (top 24) 0
abbrev s_When_init : Stmt := inClass (top 25) 0
abbrev s_Part_init : Stmt := inClass (top 26) 0
abbrev s_Program_init : Stmt := inClass (top 27) 0
abbrev s_assignment_count : Stmt := top 28
abbrev s_words_chosen : Stmt := top 29
abbrev s_made_name : Stmt := top 30
abbrev s_Token_init : Stmt := inClass (top 42) 0
abbrev s_tokens_of : Stmt := top 43
abbrev s_token_start : Stmt := top 44
abbrev s_remark_end : Stmt := top 45
abbrev s_token_at : Stmt := top 46
abbrev s_number_at : Stmt := top 47
abbrev s_name_at : Stmt := top 48
abbrev s_is_digit : Stmt := top 49
abbrev s_is_letter : Stmt := top 50
abbrev s_read_program : Stmt := top 60
abbrev s_Reader_init : Stmt := inClass (top 61) 0
abbrev s_Reader_kind_ahead : Stmt := inClass (top 61) 1
abbrev s_Reader_take : Stmt := inClass (top 61) 2
abbrev s_Reader_skip : Stmt := inClass (top 61) 3
abbrev s_Reader_take_within : Stmt := inClass (top 61) 4
abbrev s_Reader_take_size : Stmt := inClass (top 61) 5
abbrev s_Reader_read_settings : Stmt := inClass (top 61) 6
abbrev s_Reader_read_words : Stmt := inClass (top 61) 7
abbrev s_Reader_read_parts : Stmt := inClass (top 61) 8
abbrev s_Reader_read_part : Stmt := inClass (top 61) 9
abbrev s_Reader_read_body : Stmt := inClass (top 61) 10
abbrev s_Reader_read_statement : Stmt := inClass (top 61) 11
abbrev s_Reader_read_call : Stmt := inClass (top 61) 12
abbrev s_Reader_read_make : Stmt := inClass (top 61) 13
abbrev s_Reader_read_when : Stmt := inClass (top 61) 14
abbrev s_Reader_take_known : Stmt := inClass (top 61) 15
abbrev s_Reader_read_entries : Stmt := inClass (top 61) 16
abbrev s_Reader_check_calls : Stmt := inClass (top 61) 17
abbrev s_Run_init : Stmt := inClass (top 68) 0
abbrev s_Run_enter : Stmt := inClass (top 68) 1
abbrev s_Run_do_all : Stmt := inClass (top 68) 2
abbrev s_Run_do_one : Stmt := inClass (top 68) 3
abbrev s_run_through : Stmt := top 69
abbrev s_all_entered : Stmt := top 70
abbrev s_reached_parts : Stmt := top 71
abbrev s_leads_to : Stmt := top 72
abbrev s_parts_in_each : Stmt := top 73
abbrev s_Held_init : Stmt := inClass (top 95) 0
abbrev s_answers : Stmt := top 96
abbrev s_call_end : Stmt := top 97
abbrev s_answer_of : Stmt := top 98
abbrev s_is_one_of : Stmt := top 99
abbrev s_is_cost : Stmt := top 100
abbrev s_load_answer : Stmt := top 101
abbrev s_packs_answer : Stmt := top 102
abbrev s_cost_answer : Stmt := top 103
abbrev s_run_refusal : Stmt := top 104
abbrev s_run_answer : Stmt := top 105
abbrev s_before_answer : Stmt := top 106
abbrev s_best_answer : Stmt := top 107
abbrev s_move_answer : Stmt := top 108
abbrev s_there_answer : Stmt := top 109
/-! ### what is known of a def, a method, a class, a constant of the text -/
structure DefAt (K : PySem.W.Frag) (mg : Str → Option Value) (x : Str) (st : Stmt) : Prop where
  ex : ∃ (f : Addr) (fd : FuncData), Fun K x x st f fd ∧ mg x = some (.ref f)
structure MethAt (K : PySem.W.Frag) (C : Addr) (m qual : Str) (st : Stmt) : Prop where
  ex : ∃ (f : Addr) (fd : FuncData), Fun K m qual st f fd ∧ Meth K C m f
structure InitAt (K : PySem.W.Frag) (mg : Str → Option Value) (C : Addr) (x qual : Str) (st : Stmt) : Prop where
  ex : ∃ (f : Addr) (fd : FuncData), Fun K "__init__" qual st f fd ∧ Mk K C f
  g : mg x = some (.ref C)
  cl : Cls K C
def GI (mg : Str → Option Value) (x : Str) (i : Int) : Prop := ∃ t, mg x = some (.int i t)
/-- a def of the text that keeps its promise -/
structure Ok (P : Program) (w : World) (K : PySem.W.Frag) (mg : Str → Option Value) (base : Heap) (CX : CXT) (k : Nat) (x : Str) (ps : List Str) (sp : Sp) : Prop where
  ex : ∃ (f : Addr) (fd : FuncData), FnOk P w K mg base CX k f fd ps sp ∧ mg x = some (.ref f) ∧ PySem.W.keepIn K (.ref f) = true ∧ Binds K fd ps []
structure OkM (P : Program) (w : World) (K : PySem.W.Frag) (mg : Str → Option Value) (base : Heap) (CX : CXT) (k : Nat) (C : Addr) (m : Str) (ps : List Str) (sp : Sp) : Prop where
  ex : ∃ (f : Addr) (fd : FuncData), FnOk P w K mg base CX k f fd ps sp ∧ Meth K C m f ∧ Binds K fd ps []
structure OkI (P : Program) (w : World) (K : PySem.W.Frag) (mg : Str → Option Value) (base : Heap) (CX : CXT) (k : Nat) (C : Addr) (x : Str) (ps : List Str) (sp : Sp) : Prop where
  ex : ∃ (f : Addr) (fd : FuncData), FnOk P w K mg base CX k f fd ps sp ∧ Mk K C f ∧ Binds K fd ps []
  g : mg x = some (.ref C)
section
variable {P : Program} {w : World} {K : PySem.W.Frag} {mg : Str → Option Value} {base : Heap} {CX : CXT} {k : Nat} {x m qual : Str} {ps N : List Str} {sp : Sp} {C : Addr} {st : Stmt}
theorem Ok.mk' (D : DefAt K mg x st) (h : ∀ f fd, Fun K x x st f fd → FnOk P w K mg base CX k f fd ps sp)
    (b : ∀ (kV doc pm : Value) (an : Option Addr) (cdv ct : Value) (us : List Value), us.length = ps.length → bindArgs (PySem.W.fnOf x x (defArgs st) (defBody st) (defScope st) .none kV doc pm an cdv ct) ⟨us, []⟩ = pure (ps.zip us)) : Ok P w K mg base CX k x ps sp := by
  obtain ⟨f, fd, F, g⟩ := D.ex
  exact ⟨f, fd, h f fd F, g, F.kp, F.binds b⟩
theorem OkM.mk' (D : MethAt K C m qual st) (h : ∀ f fd, Fun K m qual st f fd → FnOk P w K mg base CX k f fd ps sp)
    (b : ∀ (kV doc pm : Value) (an : Option Addr) (cdv ct : Value) (us : List Value), us.length = ps.length → bindArgs (PySem.W.fnOf m qual (defArgs st) (defBody st) (defScope st) .none kV doc pm an cdv ct) ⟨us, []⟩ = pure (ps.zip us)) : OkM P w K mg base CX k C m ps sp := by
  obtain ⟨f, fd, F, g⟩ := D.ex
  exact ⟨f, fd, h f fd F, g, F.binds b⟩
theorem OkI.mk' (D : InitAt K mg C x qual st) (h : ∀ f fd, Fun K "__init__" qual st f fd → FnOk P w K mg base CX k f fd ps sp)
    (b : ∀ (kV doc pm : Value) (an : Option Addr) (cdv ct : Value) (us : List Value), us.length = ps.length → bindArgs (PySem.W.fnOf "__init__" qual (defArgs st) (defBody st) (defScope st) .none kV doc pm an cdv ct) ⟨us, []⟩ = pure (ps.zip us)) : OkI P w K mg base CX k C x ps sp := by
  obtain ⟨f, fd, F, g⟩ := D.ex
  exact ⟨⟨f, fd, h f fd F, g, F.binds b⟩, D.g⟩
end
section
variable {X : Cx} {CX : CXT} {k : Nat} {C : Addr} {ps : List Str} {sp : Sp} {E : XK} {x m : Str} {p pos apos : Pos} {e o : Expr} {es : List Expr} {ta : TE} {t : TA}
/-- f(e, ..) -/
theorem cl (F : Ok X.prog X.w X.K X.mg X.base CX k x ps sp) (hr : Room k X.A) (hx : Passes CX X E) (ha : PA X (e :: es) t) (hg : Gl X x := by rfl)
    (hdb : (x == ("__debug__" : Str)) = false := by decide) (he : starEach (e :: es) X.env = (false, eval e X.env) :: starEach es X.env := by rfl) (hpl : (backTo pos (starEach es X.env)).any (·.1) = false := by rfl) :
    PE X (.Call (.Name x p) (e :: es) [] pos) (tCall sp [] E t) := by
  obtain ⟨f, fd, G, g, kp, b⟩ := F.ex
  exact pe_call G hr hg g kp b .nil hx ha hdb he hpl
/-- o.m(e, ..) -/
theorem cm {pl : Sem Bool} (he : PE X o ta) (c : Cls X.K C) (F : OkM X.prog X.w X.K X.mg X.base CX k C m ps sp) (hr : Room k X.A) (hx : Passes CX X E) (ha : PA X (e :: es) t)
    (hst : starEach (e :: es) X.env = (false, eval e X.env) :: starEach es X.env := by rfl) (hpl : (backTo pos (starEach es X.env)).any (·.1) = false := by rfl)
    (ht : eval (.Call (.Attribute o m apos) (e :: es) [] pos) X.env = (do
      let ov ← eval o X.env
      standAt apos.atName
      let (f, first) ← holding [ov] (getMethod ov m pl)
      callWith pos f first (backTo pos (starEach (e :: es) X.env)) (backToKw pos (keywordEach [] X.env))) := by rfl) :
    PE X (.Call (.Attribute o m apos) (e :: es) [] pos) (tMeth C m sp [] E ta t) := by
  obtain ⟨f, fd, G, g, b⟩ := F.ex
  exact pe_meth he c g G hr b .nil hx ha hst hpl ht
/-- o.m() -/
theorem cm0 {pl : Sem Bool} (he : PE X o ta) (c : Cls X.K C) (F : OkM X.prog X.w X.K X.mg X.base CX k C m ps sp) (hr : Room k X.A) (hx : Passes CX X E)
    (ht : eval (.Call (.Attribute o m apos) [] [] pos) X.env = (do
      let ov ← eval o X.env
      standAt apos.atName
      let (f, first) ← holding [ov] (getMethod ov m pl)
      callWith pos f first (backTo pos (starEach [] X.env)) (backToKw pos (keywordEach [] X.env))) := by rfl) :
    PE X (.Call (.Attribute o m apos) [] [] pos) (tMeth C m sp [] E ta tNil) := by
  obtain ⟨f, fd, G, g, b⟩ := F.ex
  exact pe_meth0 he c g G hr b .nil hx ht
/-- C(e, ..) -/
theorem ci (F : OkI X.prog X.w X.K X.mg X.base CX k C x ps sp) (hr : Room (k + 1) X.A) (hx : Passes CX X E) (ha : PA X (e :: es) t) (hg : Gl X x := by rfl)
    (hdb : (x == ("__debug__" : Str)) = false := by decide) (he : starEach (e :: es) X.env = (false, eval e X.env) :: starEach es X.env := by rfl) (hpl : (backTo pos (starEach es X.env)).any (·.1) = false := by rfl) :
    PE X (.Call (.Name x p) (e :: es) [] pos) (tMake C sp [] E t) := by
  obtain ⟨f, fd, G, M, b⟩ := F.ex
  exact pe_make M G hr hg F.g b .nil hx ha hdb he hpl
/-- C() -/
theorem ci0 (F : OkI X.prog X.w X.K X.mg X.base CX k C x ps sp) (hr : Room (k + 1) X.A) (hx : Passes CX X E) (hg : Gl X x := by rfl)
    (hdb : (x == ("__debug__" : Str)) = false := by decide) :
    PE X (.Call (.Name x p) [] [] pos) (tMake C sp [] E tNil) := by
  obtain ⟨f, fd, G, M, b⟩ := F.ex
  exact pe_make0 M G hr hg F.g b .nil hx hdb
/-- a constant of the module -/
theorem gi {i : Int} (h : GI X.mg x i) (hg : Gl X x := by rfl) (hd : (x == ("__debug__" : Str)) = false := by decide) : PE X (.Name x pos) (tC (.int i)) := by
  obtain ⟨t, h⟩ := h
  exact pe_glob hg h ⟨_, rfl⟩ hd
end
/-- what is raised in a def of CX goes its own way out -/
theorem pout {P : Program} {w : World} {K : PySem.W.Frag} {mg : Str → Option Value} {base : Heap} {N : List Str} {qual : Str} {sc : Scope} {f : Addr} {cdv : Value} {A : Around} {outer : List Env} {s : Shared} {H : Hp} {E : XK} :
    Passes (L2.CX P w) (cxOf (L2.CX P w) P w K mg base N qual sc f cdv A outer s H E) E := passes_call (takes_of rfl rfl rfl rfl) (fun _ _ _ _ h => h)
/-! ### texts -/
abbrev By := List UInt8
def bI (b : UInt8) : V := .int (b.toNat : Int)
def bL (b : By) : List V := b.map bI
theorem bL_len (b : By) : (bL b).length = b.length := List.length_map ..
theorem bL_at {b : By} {i : Nat} {c : UInt8} (h : b[i]? = some c) : (bL b)[i]? = some (bI c) := by
  unfold bL
  rw [List.getElem?_map, h]
  rfl
end Pk
end
section
set_option Elab.async false
set_option linter.all false
set_option maxRecDepth 100000
set_option maxHeartbeats 4000000
namespace Pk
open PySem PySem.Spec PyProof.Rows L2
theorem ited {c A B : Prop} [Decidable c] (h1 : c → A) (h2 : ¬ c → B) : if decide c = true then A else B := by
  by_cases h : c
  · rw [if_pos (decide_eq_true h)]
    exact h1 h
  · rw [if_neg (by simpa using h)]
    exact h2 h
theorem itb {c : Bool} {A B : Prop} (h1 : c = true → A) (h2 : c = false → B) : if c = true then A else B := by
  cases c with
  | true => exact iteT (h1 rfl)
  | false => exact iteF (h2 rfl)
theorem itnd {c A B : Prop} [Decidable c] (h1 : ¬ c → A) (h2 : c → B) : if (!decide c) = true then A else B := by
  by_cases h : c
  · rw [decide_eq_true h]
    exact iteF (h2 h)
  · rw [decide_eq_false h]
    exact iteT (h1 h)
theorem qv {Q : VK} {H : Hp} {x y : V} (h : Q x H) (e : x = y) : Q y H := e ▸ h
theorem qbl {Q : VK} {H : Hp} {x y : Bool} (h : Q (.bl x) H) (e : x = y) : Q (.bl y) H := e ▸ h
theorem qint {Q : VK} {H : Hp} {x y : Int} (h : Q (.int x) H) (e : x = y) : Q (.int y) H := e ▸ h
section
variable {P : Program} {w : World} {K : PySem.W.Frag} {mg : Str → Option Value} {base : Heap}
def spDig : Sp := fun vs H Q _ => ∃ c : UInt8, vs = [bI c] ∧ Q (.bl (VakepBase.isDigit c)) H
theorem scDig : FnScope ["byte"] ["byte"] (defScope s_is_digit) := ⟨rfl, rfl, rfl, by decide +kernel, rfl, by decide +kernel, by decide +kernel⟩
theorem ok_dig (D : DefAt K mg "is_digit" s_is_digit) : Ok P w K mg base CX0 1 "is_digit" ["byte"] spDig := by
  refine Ok.mk' D (fun f fd F => F.ok scDig (fun vs H Q E h => ?_) (fun cdv A outer s H vs Q E hr h => ?_)) (fun _ _ _ _ _ _ us hl => match us, hl with | [_], _ => rfl)
  · obtain ⟨c, rfl, _⟩ := h
    rfl
  · obtain ⟨c, rfl, h⟩ := h
    refine ⟨_, pss_one (ps_ret (pe_chain op_le op_le pe_int (pv 0) pe_int)), ?_⟩
    refine ⟨_, rfl, _, _, rfl, rfl, _, rfl, ?_⟩
    refine ited (fun h1 => ⟨_, _, rfl, rfl, qbl h ?_⟩) (fun h1 => qbl h ?_)
    · exact decide_eq_decide.mpr (by omega)
    · exact decide_eq_false (by omega)
def spLet : Sp := fun vs H Q _ => ∃ c : UInt8, vs = [bI c] ∧ Q (.bl (VakepBase.isLetter c)) H
theorem scLet : FnScope ["byte"] ["byte"] (defScope s_is_letter) := ⟨rfl, rfl, rfl, by decide +kernel, rfl, by decide +kernel, by decide +kernel⟩
theorem ok_let (D : DefAt K mg "is_letter" s_is_letter) : Ok P w K mg base CX0 1 "is_letter" ["byte"] spLet := by
  refine Ok.mk' D (fun f fd F => F.ok scLet (fun vs H Q E h => ?_) (fun cdv A outer s H vs Q E hr h => ?_)) (fun _ _ _ _ _ _ us hl => match us, hl with | [_], _ => rfl)
  · obtain ⟨c, rfl, _⟩ := h
    rfl
  · obtain ⟨c, rfl, h⟩ := h
    refine ⟨_, pss_one (ps_ret (pe_or (pe_chain op_le op_le pe_int (pv 0) pe_int) (pe_one (pe_chain op_le op_le pe_int (pv 0) pe_int)))), ?_⟩
    have e : VakepBase.isLetter c = (decide (65 ≤ c.toNat ∧ c.toNat ≤ 90) || decide (97 ≤ c.toNat ∧ c.toNat ≤ 122)) := rfl
    rw [e] at h
    have second : ¬ (65 ≤ c.toNat ∧ c.toNat ≤ 90) → tChain (rI0 fun i j => V.bl (decide (i ≤ j))) (rI0 fun i j => V.bl (decide (i ≤ j))) (tC (.int 97)) (tVar 0) (tC (.int 122)) (L2.start ["byte"] [bI c]) H Q := by
      intro n
      rw [decide_eq_false n, Bool.false_or] at h
      refine ⟨_, rfl, _, _, rfl, rfl, _, rfl, ?_⟩
      refine ited (fun h1 => ⟨_, _, rfl, rfl, qbl h ?_⟩) (fun h1 => qbl h ?_)
      · exact decide_eq_decide.mpr (by omega)
      · exact decide_eq_false (by omega)
    refine ⟨_, rfl, _, _, rfl, rfl, _, rfl, ?_⟩
    refine ited (fun h1 => ⟨_, _, rfl, rfl, _, rfl, ?_⟩) (fun h1 => ⟨_, rfl, iteF (second (by omega))⟩)
    refine ited (fun h2 => ?_) (fun h2 => second (by omega))
    rw [decide_eq_true (show 65 ≤ c.toNat ∧ c.toNat ≤ 90 by omega), Bool.true_or] at h
    exact h
/-! ### remark_end -/
def remEnd (b : By) (i : Nat) : Nat := i + ((b.drop i).takeWhile (· != 10)).length
theorem drop_at {α : Type} {b : List α} {i : Nat} {c : α} (h : b[i]? = some c) : b.drop i = c :: b.drop (i + 1) := by
  obtain ⟨h1, h2⟩ := List.getElem?_eq_some_iff.mp h
  rw [List.drop_eq_getElem_cons h1, h2]
theorem remEnd_end {b : By} {i : Nat} (h : b.length ≤ i) : remEnd b i = i := by
  unfold remEnd
  rw [List.drop_eq_nil_of_le h]
  rfl
theorem remEnd_stop {b : By} {i : Nat} {c : UInt8} (h : b[i]? = some c) (e : c = 10) : remEnd b i = i := by
  unfold remEnd
  subst e
  rw [drop_at h, List.takeWhile_cons, if_neg (by decide)]
  rfl
theorem remEnd_on {b : By} {i : Nat} {c : UInt8} (h : b[i]? = some c) (e : c ≠ 10) : remEnd b i = remEnd b (i + 1) := by
  unfold remEnd
  rw [drop_at h, List.takeWhile_cons, if_pos (by simpa using e), List.length_cons]
  omega
def spRem (K : PySem.W.Frag) : Sp := fun vs H Q _ => ∃ (a : Addr) (b : By) (i : Nat), vs = [.ref a, .int i] ∧ SqL K H a (bL b) ∧ i ≤ b.length ∧ Q (.int (remEnd b i)) H
theorem scRem : FnScope ["text", "at"] ["text", "at"] (defScope s_remark_end) := ⟨rfl, rfl, rfl, by decide +kernel, rfl, by decide +kernel, by decide +kernel⟩
theorem ok_rem (D : DefAt K mg "remark_end" s_remark_end) (hl : mg "len" = none) (h10 : GI mg "LINE_END" 10) : Ok P w K mg base CX0 1 "remark_end" ["text", "at"] (spRem K) := by
  refine Ok.mk' D (fun f fd F => F.ok scRem (fun vs H Q E h => ?_) (fun cdv A outer s H vs Q E hr h => ?_)) (fun _ _ _ _ _ _ us hl => match us, hl with | [_, _], _ => rfl)
  · obtain ⟨a, b, i, rfl, _⟩ := h
    rfl
  · obtain ⟨a, b, i, rfl, hs, hi, h⟩ := h
    refine ⟨_, pss_cons (ps_while PassesOwn.never (PW.pt (pw_and (pt_cmpR op_lt (pv 1) (pe_callB call_len_seq (by rfl) hl PySem.boot_len (pa_cons (pv 0) pa_nil)) (nomark _)) (pw_and1 (pt_cmpR op_ne (pe_ix ix_list (pv 0) (pv 1) (fun _ _ => rfl)) (gi h10) (nomark _)))))
      (pss_one (ps_aug (i := 1) scRem.nd rfl (.inl rfl) pe_int ip_add))) (pss_one (ps_ret (pv 1))), ?_⟩
    refine ⟨fun m σ H' => ∃ j : Nat, σ = [some (.ref a), some (.int j)] ∧ H' = H ∧ j ≤ b.length ∧ remEnd b j = remEnd b i ∧ m = b.length - j, ⟨_, i, rfl, rfl, hi, rfl, rfl⟩, ?_⟩
    rintro m σ H' ⟨j, rfl, rfl, hj, ej, rfl⟩
    refine ⟨_, rfl, _, rfl, _, _, rfl, .inl hs, _, _, rfl, rfl, _, rfl, ?_⟩
    rw [bL_len]
    refine ited (fun h1 => ?_) (fun h1 => iteF ?_)
    · obtain ⟨c, hc⟩ : ∃ c, b[j]? = some c := ⟨_, List.getElem?_eq_getElem (by omega)⟩
      refine ⟨_, rfl, _, rfl, _, _, _, _, rfl, rfl, hs, atI_nat (bL_at hc), rfl, _, rfl, ?_⟩
      refine itnd (fun h2 => ?_) (fun h2 => ?_)
      · have ne : c ≠ 10 := fun z => h2 (by rw [z]; rfl)
        refine ⟨_, fun _ _ z => z, ?_⟩
        refine ⟨_, rfl, _, _, rfl, rfl, ?_⟩
        refine ⟨_, ?_, j + 1, rfl, rfl, by omega, by rw [← remEnd_on hc ne]; exact ej, rfl⟩
        omega
      · have e10 : c = 10 := by
          have z : (c.toNat : Int) = 10 := by simpa [bI] using h2
          exact UInt8.toNat_inj.mp (show c.toNat = 10 by omega)
        refine ⟨_, rfl, ?_⟩
        rw [← ej, remEnd_stop hc e10] at h
        exact h
    · refine ⟨_, rfl, ?_⟩
      have e : j = b.length := by omega
      rw [← ej, remEnd_end (by omega)] at h
      exact h
end
end Pk
end
section
set_option Elab.async false
set_option linter.all false
set_option maxRecDepth 100000
set_option maxHeartbeats 4000000
namespace Pk
open PySem PySem.Spec PyProof.Rows L2
/-! ### fields by name -/
theorem lk_here {k : Str} {v : V} {r : List (Str × V)} : List.lookup k ((k, v) :: r) = some v := by
  have e : (k == k) = true := beq_self_eq_true k
  simp only [List.lookup, e]
theorem lk_past {k g : Str} {v : V} {r : List (Str × V)} (h : (k == g) = false) : List.lookup k ((g, v) :: r) = List.lookup k r := by
  simp only [List.lookup, h]
theorem put_here {f : Str} {v x : V} {r : List (Str × V)} : putF f v ((f, x) :: r) = (f, v) :: r := if_pos rfl
theorem put_past {f g : Str} {v x : V} {r : List (Str × V)} (h : ¬ g = f) : putF f v ((g, x) :: r) = (g, x) :: putF f v r := if_neg h
/-! ### Token -/
def tokF (k : Str) (pl af : Int) (tx : Str) (nu : Int) : List (Str × V) := [("kind", .str k), ("place", .int pl), ("after", .int af), ("text", .str tx), ("number", .int nu)]
theorem tokF_kind {k : Str} {pl af : Int} {tx : Str} {nu : Int} : (tokF k pl af tx nu).lookup ("kind" : Str) = some (.str k) := by kernel_rfl
theorem tokF_place {k : Str} {pl af : Int} {tx : Str} {nu : Int} : (tokF k pl af tx nu).lookup ("place" : Str) = some (.int pl) := by kernel_rfl
theorem tokF_after {k : Str} {pl af : Int} {tx : Str} {nu : Int} : (tokF k pl af tx nu).lookup ("after" : Str) = some (.int af) := by kernel_rfl
theorem tokF_text {k : Str} {pl af : Int} {tx : Str} {nu : Int} : (tokF k pl af tx nu).lookup ("text" : Str) = some (.str tx) := by kernel_rfl
theorem tokF_number {k : Str} {pl af : Int} {tx : Str} {nu : Int} : (tokF k pl af tx nu).lookup ("number" : Str) = some (.int nu) := by kernel_rfl
theorem tokF_puttext {k : Str} {pl af : Int} {tx tx' : Str} {nu : Int} : putF "text" (.str tx') (tokF k pl af tx nu) = tokF k pl af tx' nu := by kernel_rfl
theorem tokF_putnumber {k : Str} {pl af : Int} {tx : Str} {nu nu' : Int} : putF "number" (.int nu') (tokF k pl af tx nu) = tokF k pl af tx nu' := by kernel_rfl
theorem tokF_new {k : Str} {pl af : Int} {tx : Str} {nu : Int} : putF "number" (.int nu) (putF "text" (.str tx) (putF "after" (.int af) (putF "place" (.int pl) (putF "kind" (.str k) [])))) = tokF k pl af tx nu := by kernel_rfl
structure TokC (K : PySem.W.Frag) (C : Addr) : Prop where
  cl : Cls K C
  kind : NoAttr K C "kind"
  place : NoAttr K C "place"
  after : NoAttr K C "after"
  text : NoAttr K C "text"
  number : NoAttr K C "number"
def TokRaw (C : Addr) (H : Hp) (p : Addr) (k : Str) (pl af : Int) (tx : Str) (nu : Int) : Prop := ∃ dx, H p = some (.ins C dx (tokF k pl af tx nu))
section
variable {P : Program} {w : World} {K : PySem.W.Frag} {mg : Str → Option Value} {base : Heap}
def spTokI (C : Addr) : Sp := fun vs H Q _ => ∃ (p dx : Addr) (k : Str) (pl af : Int), vs = [.ref p, .str k, .int pl, .int af] ∧ H p = some (.ins C dx []) ∧
  ∀ H', H' p = some (.ins C dx (tokF k pl af "" 0)) → (∀ b o, H b = some o → b ≠ p → H' b = some o) → Q .non H'
theorem scTokI : FnScope ["self", "kind", "place", "after"] ["self", "kind", "place", "after"] (defScope s_Token_init) := ⟨rfl, rfl, rfl, by decide +kernel, rfl, by decide +kernel, by decide +kernel⟩
theorem ok_tokI {C : Addr} (T : TokC K C) (D : InitAt K mg C "Token" "Token.__init__" s_Token_init) : OkI P w K mg base CX0 1 C "Token" ["self", "kind", "place", "after"] (spTokI C) := by
  refine OkI.mk' D (fun f fd F => F.ok scTokI (fun vs H Q E h => ?_) (fun cdv A outer s H vs Q E hr h => ?_)) (fun _ _ _ _ _ _ us hl => match us, hl with | [_, _, _, _], _ => rfl)
  · obtain ⟨p, dx, k, pl, af, rfl, _⟩ := h
    rfl
  · obtain ⟨p, dx, k, pl, af, rfl, hp, h⟩ := h
    refine ⟨_, pss_cons (ps_fld (pv 0) (pv 1) rfl) (pss_cons (ps_fld (pv 0) (pv 2) rfl) (pss_cons (ps_fld (pv 0) (pv 3) rfl) (pss_cons (ps_fld (pv 0) pe_str rfl) (pss_one (ps_fld (pv 0) pe_int rfl))))), ?_⟩
    refine ⟨_, rfl, _, rfl, p, C, dx, _, rfl, hp, T.cl, T.kind, (by decide), ?_⟩
    refine ⟨_, rfl, _, rfl, p, C, dx, _, rfl, upd_same, T.cl, T.place, (by show 1 < 1000; decide), ?_⟩
    refine ⟨_, rfl, _, rfl, p, C, dx, _, rfl, upd_same, T.cl, T.after, (by show 2 < 1000; decide), ?_⟩
    refine ⟨_, rfl, p, C, dx, _, rfl, upd_same, T.cl, T.text, (by show 3 < 1000; decide), ?_⟩
    refine ⟨_, rfl, p, C, dx, _, rfl, upd_same, T.cl, T.number, (by show 4 < 1000; decide), ?_⟩
    refine h _ (upd_same.trans ?_) (fun b o e n => ?_)
    · exact congrArg (fun q => some (HO.ins C dx q)) tokF_new
    · rw [upd_ne n, upd_ne n, upd_ne n, upd_ne n, upd_ne n]
      exact e
/-! ### token_start -/
theorem remEnd_lt {b : By} {i : Nat} {c : UInt8} (h : b[i]? = some c) (e : c = 35) : i < remEnd b i := by
  unfold remEnd
  subst e
  rw [drop_at h, List.takeWhile_cons, if_pos (by decide), List.length_cons]
  omega
theorem remEnd_le {b : By} {i : Nat} (h : i ≤ b.length) : remEnd b i ≤ b.length := by
  unfold remEnd
  have := (List.takeWhile_sublist (l := b.drop i) (· != 10)).length_le
  rw [List.length_drop] at this
  omega
def tokStart (b : By) (i : Nat) : Nat :=
  if h : i < b.length then
    if h2 : b[i] = 35 then tokStart b (remEnd b i)
    else if VakepBase.isBlank b[i] = true then tokStart b (i + 1) else i
  else i
termination_by b.length - i
decreasing_by
  · have := remEnd_lt (List.getElem?_eq_getElem h) h2
    omega
  · omega
theorem tokStart_end {b : By} {i : Nat} (h : b.length ≤ i) : tokStart b i = i := by
  rw [tokStart, dif_neg (by omega)]
theorem at_get {b : By} {i : Nat} {c : UInt8} (h : b[i]? = some c) : ∃ hi : i < b.length, b[i] = c := List.getElem?_eq_some_iff.mp h
theorem tokStart_rem {b : By} {i : Nat} {c : UInt8} (h : b[i]? = some c) (e : c = 35) : tokStart b i = tokStart b (remEnd b i) := by
  obtain ⟨hi, q⟩ := at_get h
  rw [tokStart, dif_pos hi, dif_pos (q.trans e)]
theorem tokStart_blank {b : By} {i : Nat} {c : UInt8} (h : b[i]? = some c) (e : c ≠ 35) (hb : VakepBase.isBlank c = true) : tokStart b i = tokStart b (i + 1) := by
  obtain ⟨hi, q⟩ := at_get h
  rw [tokStart, dif_pos hi, dif_neg (fun z => e (q.symm.trans z)), if_pos (by rw [q]; exact hb)]
theorem tokStart_stop {b : By} {i : Nat} {c : UInt8} (h : b[i]? = some c) (e : c ≠ 35) (hb : VakepBase.isBlank c = false) : tokStart b i = i := by
  obtain ⟨hi, q⟩ := at_get h
  rw [tokStart, dif_pos hi, dif_neg (fun z => e (q.symm.trans z)), if_neg (by rw [q, hb]; decide)]
/-- the module's tuple of blanks -/
def GTup (K : PySem.W.Frag) (mg : Str → Option Value) (x : Str) (xs : List V) : Prop := ∃ a, mg x = some (.ref a) ∧ ∀ H, SqT K H a xs
theorem gr {X : Cx} {x : Str} {pos : Pos} {a : Addr} (h : X.mg x = some (.ref a)) (hg : Gl X x := by rfl) (hd : (x == ("__debug__" : Str)) = false := by decide) : PE X (.Name x pos) (tC (.ref a)) := pe_glob hg h rfl hd
theorem blank_in {c : UInt8} : (if false = true then !inV (bI c) [V.int 32, V.int 9, V.int 10] else inV (bI c) [V.int 32, V.int 9, V.int 10]) = VakepBase.isBlank c := by
  have k : ∀ n : Nat, n < 256 → inV (.int (n : Int)) [V.int 32, V.int 9, V.int 10] = VakepBase.isBlank (UInt8.ofNat n) := by decide +kernel
  have q := k c.toNat c.toNat_lt
  rw [UInt8.ofNat_toNat] at q
  exact q
def spStart (K : PySem.W.Frag) : Sp := fun vs H Q _ => ∃ (a : Addr) (b : By) (i : Nat), vs = [.ref a, .int i] ∧ SqL K H a (bL b) ∧ i ≤ b.length ∧ Q (.int (tokStart b i)) H
theorem scStart : FnScope ["text", "at"] ["text", "at"] (defScope s_token_start) := ⟨rfl, rfl, rfl, by decide +kernel, rfl, by decide +kernel, by decide +kernel⟩
theorem bI_inj {c d : UInt8} (h : bI c = bI d) : c = d := by
  have z : (c.toNat : Int) = d.toNat := V.int.inj h
  exact UInt8.toNat_inj.mp (by omega)
theorem ok_start (D : DefAt K mg "token_start" s_token_start) (hl : mg "len" = none) (h35 : GI mg "REMARK" 35) {ab : Addr} (gb : mg "BLANKS" = some (.ref ab)) (tb : ∀ H, SqT K H ab [.int 32, .int 9, .int 10])
    (R : Ok P w K mg base CX0 1 "remark_end" ["text", "at"] (spRem K)) : Ok P w K mg base CX0 2 "token_start" ["text", "at"] (spStart K) := by
  refine Ok.mk' D (fun f fd F => F.ok scStart (fun vs H Q E h => ?_) (fun cdv A outer s H vs Q E hr h => ?_)) (fun _ _ _ _ _ _ us hl => match us, hl with | [_, _], _ => rfl)
  · obtain ⟨a, b, i, rfl, _⟩ := h
    rfl
  · obtain ⟨a, b, i, rfl, hs, hi, h⟩ := h
    refine ⟨_, pss_cons (ps_while PassesOwn.never (pt_cmpR op_lt (pv 1) (pe_callB call_len_seq (by rfl) hl PySem.boot_len (pa_cons (pv 0) pa_nil)) (nomark _))
      (pss_one (ps_if (pt_cmpR op_eq (pe_ix ix_list (pv 0) (pv 1) (fun _ _ => rfl)) (gi h35) (nomark _)) (pss_one (ps_set (i := 1) scStart.nd rfl (.inl rfl) (cl R hr pass0 (pa_cons (pv 0) (pa_cons (pv 1) pa_nil)))))
        (pss_one (ps_if (pt_cmpR op_in_seq (pe_ix ix_list (pv 0) (pv 1) (fun _ _ => rfl)) (gr gb) (by rfl)) (pss_one (ps_aug (i := 1) scStart.nd rfl (.inl rfl) pe_int ip_add)) (pss_one (ps_ret (pv 1)))))))) (pss_one (ps_ret (pv 1))), ?_⟩
    refine ⟨fun m σ H' => ∃ j : Nat, σ = [some (.ref a), some (.int j)] ∧ H' = H ∧ j ≤ b.length ∧ tokStart b j = tokStart b i ∧ m = b.length - j, ⟨_, i, rfl, rfl, hi, rfl, rfl⟩, ?_⟩
    rintro m σ H' ⟨j, rfl, rfl, hj, ej, rfl⟩
    refine ⟨_, rfl, _, rfl, _, _, rfl, .inl hs, _, _, rfl, rfl, _, rfl, ?_⟩
    rw [bL_len]
    refine ited (fun h1 => ⟨_, fun _ _ z => z, ?_⟩) (fun h1 => ?_)
    · obtain ⟨c, hc⟩ : ∃ c, b[j]? = some c := ⟨_, List.getElem?_eq_getElem (by omega)⟩
      refine ⟨_, rfl, _, rfl, _, _, _, _, rfl, rfl, hs, atI_nat (bL_at hc), rfl, _, rfl, ?_⟩
      refine ited (fun h2 => ?_) (fun h2 => ?_)
      · have e35 : c = 35 := bI_inj (d := 35) h2
        have l1 := remEnd_lt hc e35
        have l2 := remEnd_le (b := b) (i := j) hj
        exact ⟨_, rfl, _, rfl, a, b, j, rfl, hs, hj, _, by omega, remEnd b j, rfl, rfl, l2, by rw [← tokStart_rem hc e35]; exact ej, rfl⟩
      · have n35 : c ≠ 35 := fun z => h2 (by rw [z]; rfl)
        refine ⟨_, rfl, _, rfl, _, _, _, _, rfl, rfl, hs, atI_nat (bL_at hc), ?_⟩
        refine ⟨_, _, rfl, .inr (tb _), rfl, (by decide), _, rfl, ?_⟩
        rw [blank_in]
        refine itb (fun hb => ?_) (fun hb => ?_)
        · refine ⟨_, rfl, _, _, rfl, rfl, ?_⟩
          exact ⟨_, by omega, j + 1, rfl, rfl, by omega, by rw [← tokStart_blank hc n35 hb]; exact ej, rfl⟩
        · refine ⟨_, rfl, ?_⟩
          rw [← ej, tokStart_stop hc n35 hb] at h
          exact h
    · refine ⟨_, rfl, ?_⟩
      rw [← ej, tokStart_end (by omega)] at h
      exact h
end
end Pk
end
section
set_option Elab.async false
set_option linter.all false
set_option maxRecDepth 100000
set_option maxHeartbeats 4000000
namespace Pk
open PySem PySem.Spec PyProof.Rows L2
/-- a while whose end is told once -/
theorem wh {c : TT} {tb : TS} {D : Ends} {σ : L2.St} {H : Hp} (Pv : Nat → L2.St → Hp → Prop) (Ex : L2.St → Hp → Prop) (m0 : Nat) (h0 : Pv m0 σ H) (fin : ∀ σ H, Ex σ H → D.nx σ H)
    (turn : (∀ σ H, Ex σ H → D.nx σ H) → ∀ m σ H, Pv m σ H → c σ H fun b H1 => if b = true then ∃ N : L2.St → Hp → Prop, (∀ σ' H', N σ' H' → ∃ m', m' < m ∧ Pv m' σ' H') ∧ tb { D with nx := N, ct := N, bk := D.nx } σ H1 else D.nx σ H1) : tWhile c tb D σ H := ⟨Pv, ⟨m0, h0⟩, turn fin⟩
theorem qb {Q : Bool → Hp → Prop} {H : Hp} {x y : Bool} (h : Q x H) (e : x = y) : Q y H := e ▸ h
/-- a test whose answer is known, and that leaves the heap -/
def EvB (c : TT) (σ : L2.St) (H : Hp) (b : Bool) : Prop := ∀ Q : Bool → Hp → Prop, Q b H → c σ H Q
theorem ev_or {t u : TT} {σ : L2.St} {H : Hp} {b1 b2 : Bool} (ht : EvB t σ H b1) (hu : b1 = false → EvB u σ H b2) : EvB (tOr t u) σ H (b1 || b2) := fun Q h => by
  refine ht _ ?_
  cases b1 with
  | true => exact iteT h
  | false => exact iteF (hu rfl _ h)
theorem ev_and {t u : TT} {σ : L2.St} {H : Hp} {b1 b2 : Bool} (ht : EvB t σ H b1) (hu : b1 = true → EvB u σ H b2) : EvB (tAnd t u) σ H (b1 && b2) := fun Q h => by
  refine ht _ ?_
  cases b1 with
  | true => exact iteT (hu rfl _ h)
  | false => exact iteF h
theorem sif {c : TT} {ta tb r : TS} {D : Ends} {σ : L2.St} {H : Hp} {b : Bool} (ev : EvB c σ H b) (h1 : b = true → ta { D with nx := r D } σ H) (h2 : b = false → tb { D with nx := r D } σ H) : tSeq (tIfS c ta tb) r D σ H :=
  ev _ (itb h1 h2)
theorem oif {c : TT} {ta tb : TS} {D : Ends} {σ : L2.St} {H : Hp} {b : Bool} (ev : EvB c σ H b) (h1 : b = true → ta D σ H) (h2 : b = false → tb D σ H) : tIfS c ta tb D σ H :=
  ev _ (itb h1 h2)
/-! ### a run of bytes -/
def spanN (p : UInt8 → Bool) (b : By) (i : Nat) : Nat := ((b.drop i).takeWhile p).length
theorem spanN_end {p : UInt8 → Bool} {b : By} {i : Nat} (h : b.length ≤ i) : spanN p b i = 0 := by
  unfold spanN
  rw [List.drop_eq_nil_of_le h]
  rfl
theorem spanN_stop {p : UInt8 → Bool} {b : By} {i : Nat} {c : UInt8} (h : b[i]? = some c) (e : p c = false) : spanN p b i = 0 := by
  unfold spanN
  rw [drop_at h, List.takeWhile_cons, if_neg (by rw [e]; decide)]
  rfl
theorem spanN_on {p : UInt8 → Bool} {b : By} {i : Nat} {c : UInt8} (h : b[i]? = some c) (e : p c = true) : spanN p b i = 1 + spanN p b (i + 1) := by
  unfold spanN
  rw [drop_at h, List.takeWhile_cons, if_pos e, List.length_cons]
  omega
theorem spanN_le {p : UInt8 → Bool} {b : By} {i : Nat} (h : i ≤ b.length) : i + spanN p b i ≤ b.length := by
  unfold spanN
  have := (List.takeWhile_sublist (l := b.drop i) p).length_le
  rw [List.length_drop] at this
  omega
theorem take_span {p : UInt8 → Bool} : ∀ l : By, l.take (l.takeWhile p).length = l.takeWhile p
  | [] => rfl
  | c :: r => by
    rw [List.takeWhile_cons]
    by_cases h : p c = true
    · rw [if_pos h, List.length_cons, List.take_succ_cons, take_span r]
    · rw [if_neg h]
      rfl
theorem cut_bL {b : By} {i n : Nat} (h : i + n ≤ b.length) : cutV (bL b) (some (i : Int)) (some ((i + n : Nat) : Int)) = bL ((b.drop i).take n) := by
  unfold cutV bL
  have e1 : HT.sIx (b.map bI).length 0 (some (i : Int)) = i := by
    rw [HT.sIx_nat, List.length_map]
    omega
  have e2 : HT.sIx (b.map bI).length (b.map bI).length (some ((i + n : Nat) : Int)) = i + n := by
    rw [HT.sIx_nat, List.length_map]
    omega
  rw [e1, e2, List.map_take, List.map_drop, Nat.add_sub_cancel_left]
theorem cut_span {p : UInt8 → Bool} {b : By} {i : Nat} (h : i ≤ b.length) : cutV (bL b) (some (i : Int)) (some ((i + spanN p b i : Nat) : Int)) = bL ((b.drop i).takeWhile p) := by
  rw [cut_bL (spanN_le h)]
  unfold spanN
  rw [take_span]
/-! ### numbers -/
theorem dec_snoc (l : By) (c : UInt8) : VakepBase.decimal (l ++ [c]) = 10 * VakepBase.decimal l + (c.toNat - 48) := by
  unfold VakepBase.decimal
  rw [List.foldl_append]
  rfl
theorem dig_iff {c : UInt8} : VakepBase.isDigit c = true ↔ 48 ≤ c.toNat ∧ c.toNat ≤ 57 := by
  unfold VakepBase.isDigit
  exact decide_eq_true_iff
theorem take_snoc {α : Type} : ∀ {l : List α} {i : Nat} {x : α}, l[i]? = some x → l.take (i + 1) = l.take i ++ [x]
  | [], i, x, h => by simp at h
  | a :: l, 0, x, h => by
    have e : a = x := Option.some.inj h
    subst e
    rfl
  | a :: l, i + 1, x, h => by
    have ih := take_snoc (l := l) (i := i) (x := x) h
    show a :: l.take (i + 1) = a :: l.take i ++ [x]
    rw [ih]
    rfl
theorem dec_bound {l : By} (h : ∀ c ∈ l, VakepBase.isDigit c = true) : ∀ i, i ≤ l.length → VakepBase.decimal (l.take i) < 10 ^ i
  | 0, _ => by simp [VakepBase.decimal]
  | i + 1, hi => by
    obtain ⟨c, hc⟩ : ∃ c, l[i]? = some c := ⟨_, List.getElem?_eq_getElem (by omega)⟩
    have ih := dec_bound h i (by omega)
    have hd := dig_iff.mp (h c (List.mem_of_getElem? hc))
    rw [take_snoc hc, dec_snoc, Nat.pow_succ]
    omega
theorem takeWhile_all {p : UInt8 → Bool} : ∀ {l : By}, ∀ c ∈ l.takeWhile p, p c = true
  | [], c, h => by simp at h
  | a :: r, c, h => by
    rw [List.takeWhile_cons] at h
    by_cases e : p a = true
    · rw [if_pos e] at h
      rcases List.mem_cons.mp h with q | q
      · rw [q]; exact e
      · exact takeWhile_all c q
    · rw [if_neg e] at h
      simp at h
/-- a fault goes out, all that was tracked as it was -/
def FP (CF : Addr) (H : Hp) (E : XK) (code place : Nat) : Prop := ∀ (d : Addr) (H' : Hp), Same H H' → H' d = some (.xd (fxd (.int code) (.int place))) → E (.ref CF) (some d) H'
theorem FP.now {CF : Addr} {H H1 : Hp} {E : XK} {code place : Nat} (h : FP CF H E code place) (s : Same H H1) {d : Addr} (hd : H1 d = none) : E (.ref CF) (some d) (upd H1 d (.xd (fxd (.int code) (.int place)))) :=
  h d _ (fun b o e => by rw [upd_ne (ne_of_none (s b o e) hd)]; exact s b o e) upd_same
/-- what a new object leaves -/
theorem Same.new {H : Hp} {p : Addr} {o : HO} (h : H p = none) : Same H (upd H p o) := fun b u e => by
  rw [upd_ne (ne_of_none e h)]
  exact e
section
variable {P : Program} {w : World} {K : PySem.W.Frag} {mg : Str → Option Value} {base : Heap}
def numEnds (C CF : Addr) (b : By) (i : Nat) (H : Hp) (Q : VK) (E : XK) : Prop := match VakepBase.numberOf ((b.drop i).takeWhile VakepBase.isDigit) with
  | none => FP CF H E 2 i
  | some n => ∀ (H' : Hp) (p : Addr), Same H H' → H p = none → TokRaw C H' p "number" i ((i + spanN VakepBase.isDigit b i : Nat) : Int) "" n → Q (.ref p) H'
def spNum (K : PySem.W.Frag) (C CF : Addr) : Sp := fun vs H Q E => ∃ (a : Addr) (b : By) (i : Nat) (c : UInt8), vs = [.ref a, .int i] ∧ SqL K H a (bL b) ∧ b[i]? = some c ∧ VakepBase.isDigit c = true ∧ numEnds C CF b i H Q E
theorem scNum : FnScope ["text", "at", "after", "token", "byte"] ["text", "at"] (defScope s_number_at) := ⟨rfl, rfl, rfl, by decide +kernel, rfl, by decide +kernel, by decide +kernel⟩
structure NumT (K : PySem.W.Frag) (mg : Str → Option Value) (C CF fF : Addr) : Prop where
  ft : PySem.FaultX.FTxt K mg CF fF
  tok : TokC K C
  len : mg "len" = none
  md : GI mg "MOST_DIGITS" 10
  ze : GI mg "ZERO" 48
  nt : GI mg "NO_TOKEN" 2
  gn : GI mg "GREATEST_NUMBER" 1000000000
theorem ok_num {C CF fF : Addr} (T : NumT K mg C CF fF) (D : DefAt K mg "number_at" s_number_at)
    (Rd : Ok P w K mg base CX0 1 "is_digit" ["byte"] spDig) (RT : OkI P w K mg base CX0 1 C "Token" ["self", "kind", "place", "after"] (spTokI C)) : Ok P w K mg base (L2.CX P w) 3 "number_at" ["text", "at"] (spNum K C CF) := by
  refine Ok.mk' D (fun f fd F => F.okX scNum (fun vs H Q E h => ?_) (fun cdv A outer s H vs Q E hr h => ?_)) (fun _ _ _ _ _ _ us hl => match us, hl with | [_, _], _ => rfl)
  · obtain ⟨a, b, i, c, rfl, _⟩ := h
    rfl
  · obtain ⟨a, b, i, c, rfl, hs, hc, hd, h⟩ := h
    refine ⟨_, pss_cons (ps_set (i := 2) scNum.nd rfl (.inl rfl) (pv 1))
      (pss_cons (ps_while (passes_of rfl) (PW.pt (pw_and (pt_cmpR op_lt (pv 2) (pe_callB call_len_seq (by rfl) T.len PySem.boot_len (pa_cons (pv 0) pa_nil)) (nomark _)) (pw_and1 (pt_val (cl Rd (hr.mono (by decide)) pass0 (pa_cons (pe_ix ix_list (pv 0) (pv 2) (fun _ _ => rfl)) pa_nil))))))
        (pss_one (ps_aug (i := 2) scNum.nd rfl (.inl rfl) pe_int ip_add)))
      (pss_cons (ps_if (PW.pt (pw_or (pt_cmpR op_gt (pe_op op_sub (pv 2) (pv 1)) (gi T.md) (nomark _)) (pw_or1 (PW.pt (pw_and (pt_cmpR op_gt (pe_op op_sub (pv 2) (pv 1)) pe_int (nomark _)) (pw_and1 (pt_cmpR op_eq (pe_ix ix_list (pv 0) (pv 1) (fun _ _ => rfl)) (gi T.ze) (nomark _))))))))
        (pss_one (ps_raiseF rfl T.ft hr (takes_of rfl rfl rfl rfl) (by exact (pa_cons (gi T.nt) (pa_cons (pv 1) pa_nil))))) pss_nil)
      (pss_cons (ps_set (i := 3) scNum.nd rfl (.inl rfl) (ci RT hr pass0 (pa_cons pe_str (pa_cons (pv 1) (pa_cons (pv 2) pa_nil)))))
      (pss_cons (ps_for (passes_of rfl) rfl (pi_list (pe_slice sl_list (pv 0) (po_some (pv 1)) (po_some (pv 2)))) (pg_name (i := 4) scNum.nd rfl (.inl rfl))
        (pss_one (ps_fld (pv 3) (pe_op op_sub (pe_op op_add (pe_op op_mul (pe_fld (pv 3) rfl) pe_int) (pv 4)) (gi T.ze)) rfl)))
      (pss_cons (ps_if (pt_cmpR op_gt (pe_fld (pv 3) rfl) (gi T.gn) (nomark _)) (pss_one (ps_raiseF rfl T.ft hr (takes_of rfl rfl rfl rfl) (by exact (pa_cons (gi T.nt) (pa_cons (pv 1) pa_nil))))) pss_nil)
      (pss_one (ps_ret (pv 3)))))))), ?_⟩
    obtain ⟨hi, _⟩ := at_get hc
    refine ⟨_, rfl, ?_⟩
    -- while
    refine wh (fun m σ H' => ∃ j : Nat, σ = [some (.ref a), some (.int i), some (.int j), none, none] ∧ H' = H ∧ j ≤ b.length ∧ i ≤ j ∧ j + spanN VakepBase.isDigit b j = i + spanN VakepBase.isDigit b i ∧ m = b.length - j)
      (fun σ H' => σ = [some (.ref a), some (.int i), some (.int ((i + spanN VakepBase.isDigit b i : Nat) : Int)), none, none] ∧ H' = H) _ ⟨i, rfl, rfl, by omega, Nat.le_refl _, rfl, rfl⟩ ?_ ?_
    · rintro σ H' ⟨rfl, rfl⟩
      have hle := spanN_le (p := VakepBase.isDigit) (b := b) (i := i) (by omega)
      have hn1 : 1 ≤ spanN VakepBase.isDigit b i := by rw [spanN_on hc hd]; omega
      have hlen : ((b.drop i).takeWhile VakepBase.isDigit).length = spanN VakepBase.isDigit b i := rfl
      have hhd : ((b.drop i).takeWhile VakepBase.isDigit).head? = some c := by rw [drop_at hc, List.takeWhile_cons, if_pos hd]; rfl
      have en : (((i + spanN VakepBase.isDigit b i : Nat) : Int)) - (i : Int) = (spanN VakepBase.isDigit b i : Int) := by omega
      have fault : VakepBase.numberOf ((b.drop i).takeWhile VakepBase.isDigit) = none → FP CF H' E 2 i := fun e => by
        unfold numEnds at h
        rw [e] at h
        exact h
      dsimp only
      refine sif (b := decide (10 < spanN VakepBase.isDigit b i) || (decide (1 < spanN VakepBase.isDigit b i) && decide (c = 48)))
        (ev_or (fun Q q => ⟨_, rfl, _, rfl, _, _, rfl, rfl, _, _, rfl, rfl, _, rfl, qb q (decide_eq_decide.mpr (by omega))⟩)
          (fun _ => ev_and (fun Q q => ⟨_, rfl, _, rfl, _, _, rfl, rfl, _, _, rfl, rfl, _, rfl, qb q (decide_eq_decide.mpr (by omega))⟩)
            (fun _ Q q => ⟨_, rfl, _, rfl, _, _, _, _, rfl, rfl, hs, atI_nat (bL_at hc), rfl, _, rfl, qb q (decide_eq_decide.mpr ⟨fun z => by rw [z]; rfl, fun z => bI_inj (d := 48) z⟩)⟩))) (fun hb => ?_) (fun hb => ?_)
      · refine ⟨_, rfl, _, _, rfl, fun d hd => FP.now (fault ?_) (Same.refl _) hd⟩
        unfold VakepBase.numberOf
        rw [if_pos]
        rw [Bool.or_eq_true, Bool.and_eq_true, decide_eq_true_iff, decide_eq_true_iff, decide_eq_true_iff] at hb
        rcases hb with q | ⟨q1, q2⟩
        · exact .inr (.inl q)
        · exact .inr (.inr (.inl ⟨q1, by rw [hhd, q2]⟩))
      · have hb1 : ¬ 10 < spanN VakepBase.isDigit b i := fun z => by rw [decide_eq_true z] at hb; simp at hb
        have hb2 : ¬ (1 < spanN VakepBase.isDigit b i ∧ c = 48) := fun z => by rw [decide_eq_true z.1, decide_eq_true z.2] at hb; simp at hb
        have hall : ∀ d ∈ (b.drop i).takeWhile VakepBase.isDigit, VakepBase.isDigit d = true := fun d hd => takeWhile_all d hd
        dsimp only
        refine ⟨_, rfl, _, rfl, fun x dx hx hdx hne => ⟨x, dx, _, _, _, rfl, upd_same, fun H1 hx1 fr => ⟨rfl, ?_⟩⟩⟩
        have s1 : Same H' H1 := Same.made hx hdx fr
        refine ⟨_, rfl, _, rfl, _, rfl, _, rfl, _, rfl, a, _, rfl, s1.seq hs, fun p hp => ?_⟩
        rw [cut_span (by omega)]
        have hxp : x ≠ p := ne_of_none hx1 hp
        have s2 : Same H' (upd H1 p (.lst (bL ((b.drop i).takeWhile VakepBase.isDigit)))) := s1.trans (Same.new hp)
        refine ⟨p, rfl, ⟨_, SqL.of upd_same⟩, for_list (K := K) (a := p) (xs := bL ((b.drop i).takeWhile VakepBase.isDigit)) (fun k σ H2 => ∃ v : Option V, σ = [some (.ref a), some (.int i), some (.int ((i + spanN VakepBase.isDigit b i : Nat) : Int)), some (.ref x), v] ∧ Same H' H2 ∧
            H2 p = some (.lst (bL ((b.drop i).takeWhile VakepBase.isDigit))) ∧ H2 x = some (.ins C dx (tokF "number" i ((i + spanN VakepBase.isDigit b i : Nat) : Int) "" (VakepBase.decimal (((b.drop i).takeWhile VakepBase.isDigit).take k)))))
          ⟨none, rfl, s2, upd_same, ?_⟩ (fun k σ H2 _ ⟨v, _, _, q, _⟩ => SqL.of q) ?_ ?_⟩
        · rw [upd_ne hxp]
          exact hx1
        · rintro k y σ H2 hy ⟨v, rfl, s3, hp2, hx2⟩
          obtain ⟨e, he, rfl⟩ : ∃ e, ((b.drop i).takeWhile VakepBase.isDigit)[k]? = some e ∧ y = bI e := by
            unfold bL at hy
            rw [List.getElem?_map] at hy
            cases q : ((b.drop i).takeWhile VakepBase.isDigit)[k]? with
            | none =>
              rw [q] at hy
              cases hy
            | some e =>
              rw [q] at hy
              exact ⟨e, rfl, (Option.some.inj hy).symm⟩
          have hk : k < ((b.drop i).takeWhile VakepBase.isDigit).length := (List.getElem?_eq_some_iff.mp he).1
          have bd := dec_bound hall k (by omega)
          have hk10 : k ≤ 10 := by omega
          have bd2 : VakepBase.decimal (((b.drop i).takeWhile VakepBase.isDigit).take k) < 10 ^ 10 := Nat.lt_of_lt_of_le bd (Nat.pow_le_pow_right (by decide) hk10)
          have hde := dig_iff.mp (hall e (List.mem_of_getElem? he))
          refine ⟨_, rfl, x, C, dx, _, _, rfl, hx2, T.tok.cl, T.tok.number, tokF_number, _, _, rfl, rfl, .inl ⟨by omega, by omega⟩, _, rfl, _, _, rfl, rfl, _, _, rfl, rfl, _, rfl, x, C, dx, _, rfl, hx2, T.tok.cl, T.tok.number, (by show 5 < 1000; decide), ?_⟩
          refine ⟨_, rfl, fun q o z => ?_, ?_, ?_⟩
          · rw [upd_ne (fun r => by rw [r, hx] at z; cases z)]
            exact s3 q o z
          · rw [upd_ne (Ne.symm hxp)]
            exact hp2
          · rw [upd_same, tokF_putnumber, take_snoc he, dec_snoc]
            have e2 : ((VakepBase.decimal (((b.drop i).takeWhile VakepBase.isDigit).take k) : Nat) : Int) * 10 + (e.toNat : Int) - 48 = ((10 * VakepBase.decimal (((b.drop i).takeWhile VakepBase.isDigit).take k) + (e.toNat - 48) : Nat) : Int) := by omega
            rw [← e2]
        · rintro σ H2 ⟨v, rfl, s3, hp2, hx2⟩
          rw [bL_len, List.take_length] at hx2
          have hne : (b.drop i).takeWhile VakepBase.isDigit ≠ [] := fun z => by rw [z] at hlen; simp at hlen; omega
          refine ⟨_, rfl, x, C, dx, _, _, rfl, hx2, T.tok.cl, T.tok.number, tokF_number, _, _, rfl, rfl, _, rfl, ?_⟩
          refine ited (fun h5 => ?_) (fun h5 => ?_)
          · refine ⟨_, rfl, _, _, rfl, fun d hd => FP.now (fault ?_) s3 hd⟩
            unfold VakepBase.numberOf
            rw [if_pos]
            exact .inr (.inr (.inr (by show 1000000000 < _; omega)))
          · refine ⟨_, rfl, ?_⟩
            unfold numEnds at h
            have en2 : VakepBase.numberOf ((b.drop i).takeWhile VakepBase.isDigit) = some (VakepBase.decimal ((b.drop i).takeWhile VakepBase.isDigit)) := by
              unfold VakepBase.numberOf
              rw [if_neg]
              rintro (q | q | ⟨q1, q2⟩ | q)
              · exact hne q
              · exact hb1 q
              · rw [hhd] at q2
                exact hb2 ⟨q1, Option.some.inj q2⟩
              · exact h5 (by have q : 1000000000 < VakepBase.decimal ((b.drop i).takeWhile VakepBase.isDigit) := q; omega)
            rw [en2] at h
            exact h H2 x s3 hx ⟨dx, hx2⟩
    · rintro fin m σ H' ⟨j, rfl, rfl, hj, hij, ej, rfl⟩
      refine ⟨_, rfl, _, rfl, _, _, rfl, .inl hs, _, _, rfl, rfl, _, rfl, ?_⟩
      rw [bL_len]
      refine ited (fun h1 => ?_) (fun h1 => iteF ?_)
      · obtain ⟨d, hd'⟩ : ∃ d, b[j]? = some d := ⟨_, List.getElem?_eq_getElem (by omega)⟩
        refine ⟨_, rfl, _, rfl, _, _, _, _, rfl, rfl, hs, atI_nat (bL_at hd'), d, rfl, _, rfl, ?_⟩
        refine itb (fun h2 => ⟨_, fun _ _ z => z, ?_⟩) (fun h2 => ?_)
        · refine ⟨_, rfl, _, _, rfl, rfl, ?_⟩
          exact ⟨_, by omega, j + 1, rfl, rfl, by omega, by omega, by rw [spanN_on hd' h2] at ej; omega, rfl⟩
        · refine fin _ _ ⟨?_, rfl⟩
          rw [spanN_stop hd' h2] at ej
          rw [← ej]
          rfl
      · refine fin _ _ ⟨?_, rfl⟩
        rw [spanN_end (by omega)] at ej
        rw [← ej]
        rfl
end
end Pk
end
section
set_option Elab.async false
set_option linter.all false
set_option maxRecDepth 100000
set_option maxHeartbeats 4000000
namespace Pk
open PySem PySem.Spec PyProof.Rows L2
open VakepBase (PTok isLetter isDigit RESERVED)
abbrev VTok := VakepBase.Tok
/-! ### names as texts -/
def toStr (b : By) : Str := ⟨(b.map (·.toNat)).toArray⟩
theorem map_nat_inj : ∀ {a b : By}, a.map (·.toNat) = b.map (·.toNat) → a = b
  | [], [], _ => rfl
  | [], _ :: _, h => by simp at h
  | _ :: _, [], h => by simp at h
  | x :: a, y :: b, h => by
    rw [List.map_cons, List.map_cons] at h
    obtain ⟨h1, h2⟩ := List.cons.inj h
    rw [UInt8.toNat_inj.mp h1, map_nat_inj h2]
theorem toStr_inj {a b : By} (h : toStr a = toStr b) : a = b := by
  unfold toStr at h
  have e := congrArg (fun s => s.cps.toList) h
  simp only [List.toList_toArray] at e
  exact map_nat_inj e
def kindS : VTok → Str
  | .name b => if RESERVED.contains b = true then toStr b else "name"
  | .num _ => "number"
  | .sign c => ⟨#[c]⟩
  | .last => "end"
def textS : VTok → Str
  | .name b => if RESERVED.contains b = true then "" else toStr b
  | _ => ""
def numS : VTok → Int
  | .num n => n
  | _ => 0
/-- a token's object; af: the place behind it -/
def TokA (C : Addr) (H : Hp) (p : Addr) (t : VTok) (pl : Nat) (af : Int) : Prop := TokRaw C H p (kindS t) pl af (textS t) (numS t)
abbrev isAl (c : UInt8) : Bool := isLetter c || isDigit c
def glyphs : Str := "0123456789.......ABCDEFGHIJKLMNOPQRSTUVWXYZ......abcdefghijklmnopqrstuvwxyz"
theorem glyph_at {c : UInt8} (h : isAl c = true) : atI glyphs.cps.toList ((c.toNat : Int) - 48) = some c.toNat := by
  have k : ∀ n : Nat, n < 256 → isAl (UInt8.ofNat n) = true → atI glyphs.cps.toList ((n : Int) - 48) = some n := by decide +kernel
  exact k c.toNat c.toNat_lt (by rw [UInt8.ofNat_toNat]; exact h)
def GS (mg : Str → Option Value) (x : Str) (s : Str) : Prop := ∃ t, mg x = some (.str s t)
theorem gs {X : Cx} {x : Str} {pos : Pos} {z : Str} (h : GS X.mg x z) (hg : Gl X x := by rfl) (hd : (x == ("__debug__" : Str)) = false := by decide) : PE X (.Name x pos) (tC (.str z)) := by
  obtain ⟨t, h⟩ := h
  exact pe_glob hg h ⟨_, rfl⟩ hd
def resV : List V := RESERVED.map fun b => V.str (toStr b)
def sgn (c : UInt8) : Str := ⟨#[c.toNat]⟩
theorem joinL_one : ∀ l : By, TL.joinL [] (l.map fun c => [c.toNat]) = l.map (·.toNat)
  | [] => rfl
  | [_] => rfl
  | c :: d :: r => by
    have ih := joinL_one (d :: r)
    rw [List.map_cons, List.map_cons] at ih ⊢
    show [c.toNat] ++ ([] ++ TL.joinL [] ([d.toNat] :: r.map fun c => [c.toNat])) = _
    rw [ih]
    rfl
theorem join_sgn (l : By) : Txt.join (Str.ofString "") (l.map sgn) = toStr l := by
  have e : TL.tl (Txt.join (Str.ofString "") (l.map sgn)) = TL.tl (toStr l) := by
    rw [TL.join_eq, TL.tl_join]
    have e1 : TL.tl (Str.ofString "") = [] := by decide +kernel
    have e2 : (l.map sgn).map TL.tl = l.map fun c => [c.toNat] := by
      rw [List.map_map]
      rfl
    rw [e1, e2, joinL_one]
    rfl
  exact TL.ext_tl e
theorem res_in (b : By) : inV (.str (toStr b)) resV = RESERVED.contains b := by
  unfold resV inV
  rw [List.any_map]
  induction RESERVED with
  | nil => rfl
  | cons a r ih =>
    rw [List.any_cons, List.contains_cons, ih]
    congr 1
    show (toStr a == toStr b) = (b == a)
    by_cases e : a = b
    · subst e
      rw [beq_self_eq_true, beq_self_eq_true]
    · rw [beq_false_of_ne (fun z => e (toStr_inj z)), beq_false_of_ne (fun z => e z.symm)]
section
variable {P : Program} {w : World} {K : PySem.W.Frag} {mg : Str → Option Value} {base : Heap}
def nameEnds (C CF : Addr) (b : By) (i : Nat) (H : Hp) (Q : VK) (E : XK) : Prop :=
  if 16 < spanN isAl b i then FP CF H E 2 i
  else ∀ (H' : Hp) (p : Addr), Same H H' → H p = none → TokA C H' p (.name ((b.drop i).takeWhile isAl)) i ((i + spanN isAl b i : Nat) : Int) → Q (.ref p) H'
def spName (K : PySem.W.Frag) (C CF : Addr) : Sp := fun vs H Q E => ∃ (a : Addr) (b : By) (i : Nat) (c : UInt8), vs = [.ref a, .int i] ∧ SqL K H a (bL b) ∧ b[i]? = some c ∧ isLetter c = true ∧ nameEnds C CF b i H Q E
theorem scName : FnScope ["text", "at", "after", "spelling", "token", "byte"] ["text", "at"] (defScope s_name_at) := ⟨rfl, rfl, rfl, by decide +kernel, rfl, by decide +kernel, by decide +kernel⟩
structure NameT (K : PySem.W.Frag) (mg : Str → Option Value) (C CF fF aw : Addr) : Prop where
  ft : PySem.FaultX.FTxt K mg CF fF
  tok : TokC K C
  len : mg "len" = none
  ln : GI mg "LONGEST_NAME" 16
  ze : GI mg "ZERO" 48
  nt : GI mg "NO_TOKEN" 2
  gl : GS mg "GLYPHS" glyphs
  wo : mg "WORDS" = some (.ref aw)
  wt : ∀ H, SqT K H aw resV
theorem ok_name {C CF fF aw : Addr} (T : NameT K mg C CF fF aw) (D : DefAt K mg "name_at" s_name_at)
    (Rd : Ok P w K mg base CX0 1 "is_digit" ["byte"] spDig) (Rl : Ok P w K mg base CX0 1 "is_letter" ["byte"] spLet) (RT : OkI P w K mg base CX0 1 C "Token" ["self", "kind", "place", "after"] (spTokI C)) : Ok P w K mg base (L2.CX P w) 3 "name_at" ["text", "at"] (spName K C CF) := by
  refine Ok.mk' D (fun f fd F => F.okX scName (fun vs H Q E h => ?_) (fun cdv A outer s H vs Q E hr h => ?_)) (fun _ _ _ _ _ _ us hl => match us, hl with | [_, _], _ => rfl)
  · obtain ⟨a, b, i, c, rfl, _⟩ := h
    rfl
  · obtain ⟨a, b, i, c, rfl, hs, hc, hd, h⟩ := h
    have hr1 : Room 1 _ := hr.mono (by decide)
    refine ⟨_, pss_cons (ps_set (i := 2) scName.nd rfl (.inl rfl) (pv 1))
      (pss_cons (ps_while (passes_of rfl) (PW.pt (pw_and (pt_cmpR op_lt (pv 2) (pe_callB call_len_seq (by rfl) T.len PySem.boot_len (pa_cons (pv 0) pa_nil)) (nomark _))
          (pw_and1 (PW.pt (pw_or (pt_val (cl Rl hr1 pass0 (pa_cons (pe_ix ix_list (pv 0) (pv 2) (fun _ _ => rfl)) pa_nil))) (pw_or1 (pt_val (cl Rd hr1 pass0 (pa_cons (pe_ix ix_list (pv 0) (pv 2) (fun _ _ => rfl)) pa_nil)))))))))
        (pss_one (ps_aug (i := 2) scName.nd rfl (.inl rfl) pe_int ip_add)))
      (pss_cons (ps_if (pt_cmpR op_gt (pe_op op_sub (pv 2) (pv 1)) (gi T.ln) (nomark _))
        (pss_one (ps_raiseF rfl T.ft hr (takes_of rfl rfl rfl rfl) (by exact (pa_cons (gi T.nt) (pa_cons (pv 1) pa_nil))))) pss_nil)
      (pss_cons (ps_set (i := 3) scName.nd rfl (.inl rfl) (pe_join pe_str (pe_lc (own := [("byte", 5)]) (g := gName 5) (tt := tYes) rfl scName.nd (pi_list (pe_slice sl_list (pv 0) (po_some (pv 1)) (po_some (pv 2)))) (blkOk_by (N := ["text", "at", "after", "spelling", "token", "byte"]) (sc := defScope s_name_at) (by decide +kernel))
          (fun _ _ _ _ _ => pg_name (i := 5) scName.nd rfl (Or.inl rfl)) (fun _ _ _ _ _ => pts_nil) (fun _ _ _ _ _ => pe_ix ix_str (gs T.gl) (pe_op op_sub (pv 5) (gi T.ze)) (fun _ _ => rfl)))))
      (pss_cons (ps_if (pt_cmpR op_in_seq (pv 3) (gr T.wo) (by rfl)) (pss_one (ps_ret (ci RT hr pass0 (pa_cons (pv 3) (pa_cons (pv 1) (pa_cons (pv 2) pa_nil)))))) pss_nil)
      (pss_cons (ps_set (i := 4) scName.nd rfl (.inl rfl) (ci RT hr pass0 (pa_cons pe_str (pa_cons (pv 1) (pa_cons (pv 2) pa_nil)))))
      (pss_cons (ps_fld (pv 4) (pv 3) rfl)
      (pss_one (ps_ret (pv 4))))))))), ?_⟩
    obtain ⟨hi, _⟩ := at_get hc
    refine ⟨_, rfl, ?_⟩
    refine wh (fun m σ H' => ∃ j : Nat, σ = [some (.ref a), some (.int i), some (.int j), none, none, none] ∧ H' = H ∧ j ≤ b.length ∧ i ≤ j ∧ j + spanN isAl b j = i + spanN isAl b i ∧ m = b.length - j)
      (fun σ H' => σ = [some (.ref a), some (.int i), some (.int ((i + spanN isAl b i : Nat) : Int)), none, none, none] ∧ H' = H) _ ⟨i, rfl, rfl, by omega, Nat.le_refl _, rfl, rfl⟩ ?_ ?_
    · rintro σ H' ⟨rfl, rfl⟩
      have hle := spanN_le (p := isAl) (b := b) (i := i) (by omega)
      have hlen : ((b.drop i).takeWhile isAl).length = spanN isAl b i := rfl
      refine ⟨_, rfl, _, rfl, _, _, rfl, rfl, _, _, rfl, rfl, _, rfl, ?_⟩
      unfold nameEnds at h
      refine ited (fun h1 => ?_) (fun h1 => ?_)
      · rw [if_pos (by omega)] at h
        exact ⟨_, rfl, _, _, rfl, fun d hd => FP.now h (Same.refl _) hd⟩
      · rw [if_neg (by omega)] at h
        have hall : ∀ d ∈ (b.drop i).takeWhile isAl, isAl d = true := fun d hd => takeWhile_all d hd
        refine ⟨⟨_, rfl⟩, _, rfl, _, rfl, _, rfl, _, rfl, _, rfl, a, _, rfl, hs, fun p hp => ?_⟩
        rw [cut_span (by omega)]
        refine ⟨p, rfl, ⟨_, SqL.of upd_same⟩, fun D hD => ?_⟩
        have hpD : p ≠ D := ne_of_none upd_same hD
        refine lc_list (K := K) (a := p) (xs := bL ((b.drop i).takeWhile isAl)) (fun k H2 => Same H' H2 ∧ H2 p = some (.lst (bL ((b.drop i).takeWhile isAl))) ∧ H2 D = some (.lst ((((b.drop i).takeWhile isAl).take k).map fun c => V.str (sgn c))))
          ⟨(Same.new hp).trans (Same.new hD), (upd_ne hpD).trans upd_same, upd_same⟩ (fun k H2 _ q => SqL.of q.2.1) ?_ ?_
        · rintro k y H2 hy ⟨s3, hp2, hD2⟩
          obtain ⟨e, he, rfl⟩ : ∃ e, ((b.drop i).takeWhile isAl)[k]? = some e ∧ y = bI e := by
            unfold bL at hy
            rw [List.getElem?_map] at hy
            cases q : ((b.drop i).takeWhile isAl)[k]? with
            | none =>
              rw [q] at hy
              cases hy
            | some e =>
              rw [q] at hy
              exact ⟨e, rfl, (Option.some.inj hy).symm⟩
          have hk : k < ((b.drop i).takeWhile isAl).length := (List.getElem?_eq_some_iff.mp he).1
          refine ⟨rfl, ?_⟩
          dsimp only [tYes]
          rw [if_pos rfl]
          refine ⟨_, rfl, _, _, rfl, rfl, _, _, _, rfl, rfl, (by decide), glyph_at (hall e (List.mem_of_getElem? he)), _, hD2, ?_, fun q o z => ?_, ?_, ?_⟩
          · rw [List.length_map, List.length_take]
            have : sizeLine = 16777216 := sizeLine_eq
            omega
          · rw [upd_ne (fun r => by rw [r] at z; rw [upd_ne (fun q => hpD q.symm)] at hD; rw [hD] at z; cases z)]
            exact s3 q o z
          · rw [upd_ne hpD]
            exact hp2
          · rw [upd_same, take_snoc he, List.map_append]
            rfl
        · rintro H2 ⟨s3, hp2, hD2⟩
          rw [bL_len, List.take_length] at hD2
          have hD3 : H2 D = some (.lst ((((b.drop i).takeWhile isAl).map sgn).map V.str)) := by
            rw [List.map_map]
            exact hD2
          have hw16 : ((b.drop i).takeWhile isAl).length ≤ 16 := by omega
          have sum1 : ∀ l : By, ((l.map sgn).map (·.length)).sum = l.length := fun l => by
            induction l with
            | nil => rfl
            | cons x r ih =>
              rw [List.map_cons, List.map_cons, List.sum_cons, ih, List.length_cons]
              show 1 + r.length = r.length + 1
              omega
          refine ⟨_, _, ((b.drop i).takeWhile isAl).map sgn, rfl, rfl, .inl (SqL.of hD3), ?_, ?_⟩
          · rw [sum1]
            have : (Str.ofString "").length = 0 := by decide +kernel
            rw [this]
            omega
          rw [join_sgn]
          refine ⟨_, rfl, _, _, rfl, .inr (T.wt _), rfl, (by decide +kernel), _, rfl, ?_⟩
          dsimp only
          rw [if_neg Bool.false_ne_true, res_in]
          refine itb (fun hb => ?_) (fun hb => ?_)
          · refine ⟨_, rfl, _, rfl, _, rfl, fun x dx hx hdx hne => ⟨x, dx, _, _, _, rfl, upd_same, fun H3 hx3 fr => ⟨rfl, ?_⟩⟩⟩
            refine h H3 x (s3.trans (Same.made hx hdx fr)) (s3.free hx) ⟨dx, ?_⟩
            show _ = some (HO.ins C dx (tokF (if _ then _ else _) _ _ (if _ then _ else _) _))
            rw [if_pos hb, if_pos hb]
            exact hx3
          · refine ⟨_, rfl, _, rfl, fun x dx hx hdx hne => ⟨x, dx, _, _, _, rfl, upd_same, fun H3 hx3 fr => ⟨rfl, ?_⟩⟩⟩
            refine ⟨_, rfl, _, rfl, x, C, dx, _, rfl, hx3, T.tok.cl, T.tok.text, (by show 5 < 1000; decide), _, rfl, ?_⟩
            have s4 := s3.trans (Same.made hx hdx fr)
            refine h _ x (fun q o z => ?_) (s3.free hx) ⟨dx, ?_⟩
            · rw [upd_ne (fun r => by rw [r, s3.free hx] at z; cases z)]
              exact s4 q o z
            · rw [upd_same, tokF_puttext]
              show _ = some (HO.ins C dx (tokF (if _ then _ else _) _ _ (if _ then _ else _) _))
              rw [if_neg (by rw [hb]; decide), if_neg (by rw [hb]; decide)]
              rfl
    · rintro fin m σ H' ⟨j, rfl, rfl, hj, hij, ej, rfl⟩
      refine ⟨_, rfl, _, rfl, _, _, rfl, .inl hs, _, _, rfl, rfl, _, rfl, ?_⟩
      rw [bL_len]
      refine ited (fun h1 => ?_) (fun h1 => iteF ?_)
      · obtain ⟨d, hd'⟩ : ∃ d, b[j]? = some d := ⟨_, List.getElem?_eq_getElem (by omega)⟩
        refine ev_or (b1 := isLetter d) (b2 := isDigit d) (fun Q q => ⟨_, rfl, _, rfl, _, _, _, _, rfl, rfl, hs, atI_nat (bL_at hd'), d, rfl, _, rfl, q⟩) (fun _ Q q => ⟨_, rfl, _, rfl, _, _, _, _, rfl, rfl, hs, atI_nat (bL_at hd'), d, rfl, _, rfl, q⟩) _ ?_
        refine itb (fun h2 => ⟨_, fun _ _ z => z, ?_⟩) (fun h2 => ?_)
        · refine ⟨_, rfl, _, _, rfl, rfl, ?_⟩
          exact ⟨_, by omega, j + 1, rfl, rfl, by omega, by omega, by rw [spanN_on hd' h2] at ej; omega, rfl⟩
        · refine fin _ _ ⟨?_, rfl⟩
          rw [spanN_stop hd' h2] at ej
          rw [← ej]
          rfl
      · refine fin _ _ ⟨?_, rfl⟩
        rw [spanN_end (by omega)] at ej
        rw [← ej]
        rfl
end
end Pk
end
section

/-! The mathematics of the tokens: lex by places. -/
namespace Pk
open VakepBase
theorem token_len {l : Bytes} {x : VakepBase.Tok × Nat} (h : token l = some x) : 1 ≤ x.2 ∧ x.2 ≤ l.length := by
  unfold token at h
  match l, h with
  | [], h => simp at h
  | b :: r, h =>
    simp only at h
    split at h
    · rename_i hl
      split at h
      · simp at h
      · have e := Option.some.inj h
        rw [← e]
        have q := (List.takeWhile_sublist (l := b :: r) (fun c => isLetter c || isDigit c)).length_le
        refine ⟨?_, q⟩
        show 1 ≤ (List.takeWhile (fun c => isLetter c || isDigit c) (b :: r)).length
        rw [List.takeWhile_cons, if_pos (by simp [hl])]
        simp
    · split at h
      · rename_i hd
        rw [Option.map_eq_some_iff] at h
        obtain ⟨n, _, e⟩ := h
        rw [← e]
        have q := (List.takeWhile_sublist (l := b :: r) isDigit).length_le
        refine ⟨?_, q⟩
        show 1 ≤ (List.takeWhile isDigit (b :: r)).length
        rw [List.takeWhile_cons, if_pos hd]
        simp
      · split at h
        · have e := Option.some.inj h
          rw [← e]
          simp
        · simp at h
theorem lex_fuel : ∀ (n m at_ : Nat) (l : Bytes), l.length < n → l.length < m → lex n at_ l = lex m at_ l
  | 0, _, _, _, h, _ => by omega
  | _, 0, _, _, _, h => by omega
  | n + 1, m + 1, at_, [], _, _ => by rw [lex, lex]
  | n + 1, m + 1, at_, b :: r, h1, h2 => by
    rw [List.length_cons] at h1 h2
    rw [lex, lex]
    split
    · exact lex_fuel n m _ r (by omega) (by omega)
    · split
      · have q := (List.dropWhile_sublist (l := r) (· != 10)).length_le
        exact lex_fuel n m _ _ (by omega) (by omega)
      · split
        · rfl
        · rename_i x e
          have q := token_len e
          rw [lex_fuel n m _ _ (by rw [List.length_drop, List.length_cons]; omega) (by rw [List.length_drop, List.length_cons]; omega)]
def lexAt (b : Bytes) (i : Nat) : Except Fault Toks := lex (b.length + 1) i (b.drop i)
theorem drop_get {α : Type} {b : List α} {i : Nat} {c : α} (h : b[i]? = some c) : b.drop i = c :: b.drop (i + 1) := by
  obtain ⟨h1, h2⟩ := List.getElem?_eq_some_iff.mp h
  rw [List.drop_eq_getElem_cons h1, h2]
theorem lexAt_end {b : Bytes} {i : Nat} (h : b.length ≤ i) : lexAt b i = .ok [⟨i, .last⟩] := by
  unfold lexAt
  rw [List.drop_eq_nil_of_le h, lex]
theorem lexAt_blank {b : Bytes} {i : Nat} {c : UInt8} (h : b[i]? = some c) (hb : isBlank c = true) : lexAt b i = lexAt b (i + 1) := by
  unfold lexAt
  have hi := (List.getElem?_eq_some_iff.mp h).1
  rw [drop_get h, lex, if_pos hb]
  exact lex_fuel _ _ _ _ (by rw [List.length_drop]; omega) (by rw [List.length_drop]; omega)
theorem drop_while {α : Type} (p : α → Bool) (l : List α) : l.dropWhile p = l.drop (l.takeWhile p).length := by
  induction l with
  | nil => rfl
  | cons a r ih =>
    rw [List.dropWhile_cons, List.takeWhile_cons]
    split
    · rw [ih, List.length_cons, List.drop_succ_cons]
    · rfl
theorem lexAt_rem {b : Bytes} {i : Nat} {c : UInt8} (h : b[i]? = some c) (e : c = 35) : lexAt b i = lexAt b (i + ((b.drop i).takeWhile (· != 10)).length) := by
  unfold lexAt
  have hi := (List.getElem?_eq_some_iff.mp h).1
  have hn : isBlank c = false := by rw [e]; decide
  rw [drop_get h, lex, if_neg (by rw [hn]; decide), if_pos (by rw [e]; decide), drop_while, List.drop_drop, List.takeWhile_cons, if_pos (by rw [e]; decide), List.length_cons]
  have e1 : i + 1 + ((b.drop (i + 1)).takeWhile (· != 10)).length = i + (((b.drop (i + 1)).takeWhile (· != 10)).length + 1) := by omega
  rw [e1]
  exact lex_fuel _ _ _ _ (by rw [List.length_drop]; omega) (by rw [List.length_drop]; omega)
theorem lexAt_none {b : Bytes} {i : Nat} {c : UInt8} (h : b[i]? = some c) (hb : isBlank c = false) (e : c ≠ 35) (ht : token (b.drop i) = none) : lexAt b i = .error ⟨2, i⟩ := by
  unfold lexAt
  rw [drop_get h] at ht ⊢
  rw [lex, if_neg (by rw [hb]; decide), if_neg (by simpa using e), ht]
theorem lexAt_some {b : Bytes} {i : Nat} {c : UInt8} {x : VakepBase.Tok × Nat} (h : b[i]? = some c) (hb : isBlank c = false) (e : c ≠ 35) (ht : token (b.drop i) = some x) : lexAt b i = (lexAt b (i + x.2)).map fun l => ⟨i, x.1⟩ :: l := by
  unfold lexAt
  have hi := (List.getElem?_eq_some_iff.mp h).1
  have q := token_len ht
  rw [List.length_drop] at q
  have e1 : lex (b.length + 1) i (b.drop i) = (lex b.length (i + x.2) ((b.drop i).drop x.2)).map fun l => ⟨i, x.1⟩ :: l := by
    rw [drop_get h] at ht ⊢
    rw [lex, if_neg (by rw [hb]; decide), if_neg (by simpa using e), ht]
  rw [e1, List.drop_drop]
  congr 1
  exact lex_fuel _ _ _ _ (by rw [List.length_drop]; omega) (by rw [List.length_drop]; omega)
/-- the tokens of a text end with its end, and have it nowhere else -/
def Endy : Toks → Prop
  | [] => False
  | [t] => t.tok = .last
  | t :: r => t.tok ≠ .last ∧ Endy r
end Pk
end
section
set_option Elab.async false
set_option linter.all false
set_option maxRecDepth 100000
set_option maxHeartbeats 4000000
namespace Pk
open PySem PySem.Spec PyProof.Rows L2
open VakepBase (PTok isLetter isDigit RESERVED)
/-! ### a written dict with whole numbers for keys -/
structure KDI (P : Program) (w : World) (K : PySem.W.Frag) (d : Addr) (kvs : List (Key × V)) : Prop where
  dict : ∀ h : Heap, K.In h → ∃ vs, KV kvs vs ∧ h.DictOf (mixKind P w) d vs
  low : (d == sysModules) = false
section
variable {X : Cx} {d : Addr} {kvs : List (Key × V)}
theorem op_in_kdi (D : KDI X.prog X.w X.K d kvs) : OpR X (compareOp .In) (fun x y H Q => ∃ k : Key, x = kV k ∧ y = .ref d ∧ Q (.bl (valV kvs k).isSome) H) := by
  intro pins s σ H x y v u Q I rx ry h
  obtain ⟨k, rfl, rfl, q⟩ := h
  cases ry
  obtain ⟨vs, rel, dd⟩ := D.dict _ I.kIn
  refine wpAny_in_of (kV_is rx) D.low dd.mapOf ?_
  rw [← (rel.val k).isSome_eq]
  exact ⟨.bl _, H, I.tok _, rfl, q⟩
theorem ix_kdi (D : KDI X.prog X.w X.K d kvs) : IxR X (fun x y H Q => ∃ (k : Key) (v : V), x = .ref d ∧ y = kV k ∧ valV kvs k = some v ∧ Q v H) := by
  intro value slice pins s σ H x y v u Q I rx ry h hs
  obtain ⟨k, z, rfl, rfl, e, q⟩ := h
  cases rx
  obtain ⟨vs, rel, dd⟩ := D.dict _ I.kIn
  obtain ⟨w', hw, rw'⟩ := RelO.some_of (v := z) (o := valueAt vs k) (by rw [← e]; exact rel.val k)
  exact tail_any dd.mapOf.typeIs slot_dict_getitem.lookup (wpAny_getItem_of (kV_is ry) dd.mapOf hw ⟨z, H, I.tok _, rw', q⟩) hs
end
def signKV : List (Key × V) := [(.inl 43, .str "+"), (.inl 44, .str ","), (.inl 58, .str ":"), (.inl 59, .str ";"), (.inl 123, .str "{"), (.inl 125, .str "}")]
theorem sign_val (c : UInt8) : valV signKV (.inl (c.toNat : Int)) = if VakepBase.SIGNS.contains c = true then some (.str ⟨#[c.toNat]⟩) else none := by
  have k : ∀ n : Nat, n < 256 → valV signKV (.inl (n : Int)) = if VakepBase.SIGNS.contains (UInt8.ofNat n) = true then some (.str ⟨#[n]⟩) else none := by decide +kernel
  have q := k c.toNat c.toNat_lt
  rw [UInt8.ofNat_toNat] at q
  exact q
section
variable {P : Program} {w : World} {K : PySem.W.Frag} {mg : Str → Option Value} {base : Heap}
def tokEnds (C CF : Addr) (b : By) (i : Nat) (H : Hp) (Q : VK) (E : XK) : Prop := match VakepBase.token (b.drop i) with
  | none => FP CF H E 2 i
  | some x => ∀ (H' : Hp) (p : Addr), Same H H' → H p = none → TokA C H' p x.1 i ((i + x.2 : Nat) : Int) → Q (.ref p) H'
def spTok (K : PySem.W.Frag) (C CF : Addr) : Sp := fun vs H Q E => ∃ (a : Addr) (b : By) (i : Nat) (c : UInt8), vs = [.ref a, .int i] ∧ SqL K H a (bL b) ∧ b[i]? = some c ∧ tokEnds C CF b i H Q E
theorem scTok : FnScope ["text", "at", "byte"] ["text", "at"] (defScope s_token_at) := ⟨rfl, rfl, rfl, by decide +kernel, rfl, by decide +kernel, by decide +kernel⟩
structure TokT (P : Program) (w : World) (K : PySem.W.Frag) (mg : Str → Option Value) (C CF fF ds : Addr) : Prop where
  ft : PySem.FaultX.FTxt K mg CF fF
  nt : GI mg "NO_TOKEN" 2
  gS : mg "SIGNS" = some (.ref ds)
  dS : KDI P w K ds signKV
theorem tok_sign {b : By} {i : Nat} {c : UInt8} (h : b[i]? = some c) (hs : VakepBase.SIGNS.contains c = true) : VakepBase.token (b.drop i) = some (.sign c.toNat, 1) := by
  rw [drop_at h]
  have k : ∀ n : Nat, n < 256 → VakepBase.SIGNS.contains (UInt8.ofNat n) = true → isLetter (UInt8.ofNat n) = false ∧ isDigit (UInt8.ofNat n) = false := by decide +kernel
  have q := k c.toNat c.toNat_lt (by rw [UInt8.ofNat_toNat]; exact hs)
  rw [UInt8.ofNat_toNat] at q
  show (if isLetter c = true then _ else if isDigit c = true then _ else if VakepBase.SIGNS.contains c = true then _ else _) = _
  rw [if_neg (by rw [q.1]; decide), if_neg (by rw [q.2]; decide), if_pos hs]
theorem dig_not_let {c : UInt8} (h : isDigit c = true) : isLetter c = false := by
  have k : ∀ n : Nat, n < 256 → isDigit (UInt8.ofNat n) = true → isLetter (UInt8.ofNat n) = false := by decide +kernel
  have q := k c.toNat c.toNat_lt (by rw [UInt8.ofNat_toNat]; exact h)
  rw [UInt8.ofNat_toNat] at q
  exact q
theorem tok_num {b : By} {i : Nat} {c : UInt8} (h : b[i]? = some c) (hd : isDigit c = true) : VakepBase.token (b.drop i) = (VakepBase.numberOf ((b.drop i).takeWhile isDigit)).map fun n => (.num n, ((b.drop i).takeWhile isDigit).length) := by
  rw [drop_at h]
  show (if isLetter c = true then _ else if isDigit c = true then _ else if VakepBase.SIGNS.contains c = true then _ else _) = _
  rw [if_neg (by rw [dig_not_let hd]; decide), if_pos hd]
theorem tok_name {b : By} {i : Nat} {c : UInt8} (h : b[i]? = some c) (hl : isLetter c = true) : VakepBase.token (b.drop i) = if 16 < spanN isAl b i then none else some (.name ((b.drop i).takeWhile isAl), spanN isAl b i) := by
  unfold spanN
  rw [drop_at h]
  show (if isLetter c = true then _ else if isDigit c = true then _ else if VakepBase.SIGNS.contains c = true then _ else _) = _
  rw [if_pos hl]
  rfl
theorem tok_none {b : By} {i : Nat} {c : UInt8} (h : b[i]? = some c) (hs : VakepBase.SIGNS.contains c = false) (hd : isDigit c = false) (hl : isLetter c = false) : VakepBase.token (b.drop i) = none := by
  rw [drop_at h]
  show (if isLetter c = true then _ else if isDigit c = true then _ else if VakepBase.SIGNS.contains c = true then _ else _) = _
  rw [if_neg (by rw [hl]; decide), if_neg (by rw [hd]; decide), if_neg (by rw [hs]; decide)]
theorem ok_tok {C CF fF ds : Addr} (T : TokT P w K mg C CF fF ds) (D : DefAt K mg "token_at" s_token_at)
    (Rd : Ok P w K mg base CX0 1 "is_digit" ["byte"] spDig) (Rl : Ok P w K mg base CX0 1 "is_letter" ["byte"] spLet) (RT : OkI P w K mg base CX0 1 C "Token" ["self", "kind", "place", "after"] (spTokI C))
    (Rn : Ok P w K mg base (L2.CX P w) 3 "number_at" ["text", "at"] (spNum K C CF)) (Ra : Ok P w K mg base (L2.CX P w) 3 "name_at" ["text", "at"] (spName K C CF)) : Ok P w K mg base (L2.CX P w) 4 "token_at" ["text", "at"] (spTok K C CF) := by
  refine Ok.mk' D (fun f fd F => F.okX scTok (fun vs H Q E h => ?_) (fun cdv A outer s H vs Q E hr h => ?_)) (fun _ _ _ _ _ _ us hl => match us, hl with | [_, _], _ => rfl)
  · obtain ⟨a, b, i, c, rfl, _⟩ := h
    rfl
  · obtain ⟨a, b, i, c, rfl, hs, hc, h⟩ := h
    have hr1 : Room 1 _ := hr.mono (by decide)
    have hr2 : Room 2 _ := hr.mono (by decide)
    refine ⟨_, pss_cons (ps_set (i := 2) scTok.nd rfl (.inl rfl) (pe_ix ix_list (pv 0) (pv 1) (fun _ _ => rfl)))
      (pss_cons (ps_if (pt_cmpR (op_in_kdi T.dS) (pv 2) (gr T.gS) (by rfl)) (pss_one (ps_ret (ci RT hr2 pass0 (by exact (pa_cons (pe_ix (ix_kdi T.dS) (gr T.gS) (pv 2) (fun _ _ => rfl)) (pa_cons (pv 1) (pa_cons (pe_op op_add (pv 1) pe_int) pa_nil))))))) pss_nil)
      (pss_cons (ps_if (pt_val (cl Rd hr1 pass0 (pa_cons (pv 2) pa_nil))) (pss_one (ps_ret (cl Rn hr pout (pa_cons (pv 0) (pa_cons (pv 1) pa_nil))))) pss_nil)
      (pss_cons (ps_if (pt_val (cl Rl hr1 pass0 (pa_cons (pv 2) pa_nil))) (pss_one (ps_ret (cl Ra hr pout (pa_cons (pv 0) (pa_cons (pv 1) pa_nil))))) pss_nil)
      (pss_one (ps_raiseF rfl T.ft hr (takes_of rfl rfl rfl rfl) (by exact (pa_cons (gi T.nt) (pa_cons (pv 1) pa_nil)))))))), ?_⟩
    refine ⟨_, rfl, _, rfl, _, _, _, _, rfl, rfl, hs, atI_nat (bL_at hc), ?_⟩
    refine ⟨_, rfl, .inl (c.toNat : Int), rfl, rfl, _, rfl, ?_⟩
    unfold tokEnds at h
    rw [sign_val]
    by_cases hsg : VakepBase.SIGNS.contains c = true
    · rw [if_pos hsg]
      refine iteT ?_
      rw [tok_sign hc hsg] at h
      refine ⟨_, rfl, .inl (c.toNat : Int), _, rfl, rfl, by rw [sign_val, if_pos hsg], _, rfl, _, rfl, _, _, rfl, rfl, fun x dx hx hdx hne => ⟨x, dx, _, _, _, rfl, upd_same, fun H1 hx1 fr => ⟨rfl, ?_⟩⟩⟩
      exact h H1 x (Same.made hx hdx fr) hx ⟨dx, hx1⟩
    · rw [if_neg hsg]
      refine iteF ?_
      refine ⟨_, rfl, c, rfl, _, rfl, ?_⟩
      refine itb (fun hd => ?_) (fun hd => ?_)
      · rw [tok_num hc hd] at h
        refine ⟨_, rfl, _, rfl, a, b, i, c, rfl, hs, hc, hd, ?_⟩
        unfold numEnds
        cases e : VakepBase.numberOf ((b.drop i).takeWhile isDigit) with
        | none =>
          rw [e] at h
          exact h
        | some n =>
          rw [e] at h
          exact h
      · refine ⟨_, rfl, c, rfl, _, rfl, ?_⟩
        refine itb (fun hl => ?_) (fun hl => ?_)
        · rw [tok_name hc hl] at h
          refine ⟨_, rfl, _, rfl, a, b, i, c, rfl, hs, hc, hl, ?_⟩
          unfold nameEnds
          by_cases e : 16 < spanN isAl b i
          · rw [if_pos e] at h ⊢
            exact h
          · rw [if_neg e] at h ⊢
            exact h
        · rw [tok_none hc (by simpa using hsg) hd hl] at h
          exact ⟨_, rfl, _, _, rfl, fun d hd => FP.now h (Same.refl _) hd⟩
end
end Pk
end
section
set_option Elab.async false
set_option linter.all false
set_option maxRecDepth 100000
set_option maxHeartbeats 4000000
namespace Pk
open PySem PySem.Spec PyProof.Rows L2
open VakepBase (PTok isLetter isDigit RESERVED)
/-- a token's object, whatever stands behind it -/
def TokO (C : Addr) (H : Hp) (p : Addr) (t : PTok) : Prop := ∃ af : Int, TokA C H p t.tok t.place af
inductive All2 {α β : Type} (R : α → β → Prop) : List α → List β → Prop
  | nil : All2 R [] []
  | cons {a : α} {b : β} {l : List α} {m : List β} : R a b → All2 R l m → All2 R (a :: l) (b :: m)
theorem All2.len {α β : Type} {R : α → β → Prop} : ∀ {l : List α} {m : List β}, All2 R l m → l.length = m.length
  | _, _, .nil => rfl
  | _, _, .cons _ t => by rw [List.length_cons, List.length_cons, t.len]
theorem All2.imp {α β : Type} {R S : α → β → Prop} (h : ∀ a b, R a b → S a b) : ∀ {l : List α} {m : List β}, All2 R l m → All2 S l m
  | _, _, .nil => .nil
  | _, _, .cons r t => .cons (h _ _ r) (t.imp h)
theorem All2.impm {α β : Type} {R S : α → β → Prop} : ∀ {l : List α} {m : List β}, (∀ a b, a ∈ l → R a b → S a b) → All2 R l m → All2 S l m
  | _, _, _, .nil => .nil
  | _, _, h, .cons x r => .cons (h _ _ (List.mem_cons_self ..) x) (r.impm fun a b ha => h a b (List.mem_cons_of_mem _ ha))
theorem All2.snoc {α β : Type} {R : α → β → Prop} {a : α} {b : β} (h : R a b) : ∀ {l : List α} {m : List β}, All2 R l m → All2 R (l ++ [a]) (m ++ [b])
  | _, _, .nil => .cons h .nil
  | _, _, .cons r t => .cons r (All2.snoc h t)
theorem All2.get {α β : Type} {R : α → β → Prop} : ∀ {l : List α} {m : List β} {i : Nat} {b : β}, All2 R l m → m[i]? = some b → ∃ a, l[i]? = some a ∧ R a b
  | _, _, _, _, .nil, h => by simp at h
  | a :: _, b :: _, 0, c, .cons r _, h => by
    have e : b = c := Option.some.inj h
    subst e
    exact ⟨a, rfl, r⟩
  | _ :: _, _ :: m, i + 1, c, .cons _ t, h => by
    have h' : m[i]? = some c := h
    obtain ⟨x, hx, r⟩ := All2.get t h'
    exact ⟨x, hx, r⟩
theorem All2.get' {α β : Type} {R : α → β → Prop} : ∀ {l : List α} {m : List β} {i : Nat} {a : α}, All2 R l m → l[i]? = some a → ∃ b, m[i]? = some b ∧ R a b
  | _, _, _, _, .nil, h => by simp at h
  | a :: _, b :: _, 0, c, .cons r _, h => by
    have e : a = c := Option.some.inj h
    subst e
    exact ⟨b, rfl, r⟩
  | _ :: l, _ :: _, i + 1, c, .cons _ t, h => by
    have h' : l[i]? = some c := h
    obtain ⟨x, hx, r⟩ := All2.get' t h'
    exact ⟨x, hx, r⟩
/-- the list of the tokens -/
def ToksAt (C : Addr) (H : Hp) (p : Addr) (ts : List PTok) : Prop := ∃ as : List Addr, H p = some (.lst (as.map V.ref)) ∧ All2 (TokO C H) as ts
theorem TokO.same {C : Addr} {H H' : Hp} (s : Same H H') {p : Addr} {t : PTok} (h : TokO C H p t) : TokO C H' p t := by
  obtain ⟨af, dx, e⟩ := h
  exact ⟨af, dx, s _ _ e⟩
theorem ToksAt.same {C : Addr} {H H' : Hp} (s : Same H H') {p : Addr} {ts : List PTok} (h : ToksAt C H p ts) : ToksAt C H' p ts := by
  obtain ⟨as, e, r⟩ := h
  exact ⟨as, s _ _ e, r.imp fun _ _ q => q.same s⟩
section
variable {P : Program} {w : World} {K : PySem.W.Frag} {mg : Str → Option Value} {base : Heap}
theorem start_ind {b : By} {M : Nat → Prop} (h1 : ∀ i, b.length ≤ i → M i) (h2 : ∀ i c, b[i]? = some c → c = 35 → M (remEnd b i) → M i)
    (h3 : ∀ i c, b[i]? = some c → c ≠ 35 → VakepBase.isBlank c = true → M (i + 1) → M i) (h4 : ∀ i c, b[i]? = some c → c ≠ 35 → VakepBase.isBlank c = false → M i) : ∀ (n i : Nat), b.length - i ≤ n → M i
  | 0, i, h => h1 i (by omega)
  | n + 1, i, h => by
    by_cases hi : i < b.length
    · have hc := List.getElem?_eq_getElem hi
      by_cases q : b[i] = 35
      · have := remEnd_lt hc q
        exact h2 i _ hc q (start_ind h1 h2 h3 h4 n _ (by omega))
      · by_cases r : VakepBase.isBlank b[i] = true
        · exact h3 i _ hc q r (start_ind h1 h2 h3 h4 n _ (by omega))
        · exact h4 i _ hc q (by simpa using r)
    · exact h1 i (by omega)
theorem lexAt_start {b : By} {i : Nat} : lexAt b i = lexAt b (tokStart b i) :=
  start_ind (b := b) (M := fun i => lexAt b i = lexAt b (tokStart b i)) (fun i h => by rw [tokStart_end h])
    (fun i c hc e ih => by rw [lexAt_rem hc e, tokStart_rem hc e]; exact ih) (fun i c hc e hb ih => by rw [lexAt_blank hc hb, tokStart_blank hc e hb]; exact ih) (fun i c hc e hb => by rw [tokStart_stop hc e hb]) _ i (Nat.le_refl _)
theorem tokStart_le {b : By} {i : Nat} : i ≤ b.length → tokStart b i ≤ b.length :=
  start_ind (b := b) (M := fun i => i ≤ b.length → tokStart b i ≤ b.length) (fun i h h' => by rw [tokStart_end h]; exact h')
    (fun i c hc e ih h => by rw [tokStart_rem hc e]; exact ih (remEnd_le h)) (fun i c hc e hb ih h => by rw [tokStart_blank hc e hb]; exact ih (at_get hc).1) (fun i c hc e hb h => by rw [tokStart_stop hc e hb]; exact h) _ i (Nat.le_refl _)
theorem tokStart_ge {b : By} {i : Nat} : i ≤ tokStart b i :=
  start_ind (b := b) (M := fun i => i ≤ tokStart b i) (fun i h => by rw [tokStart_end h]; exact Nat.le_refl _)
    (fun i c hc e ih => by rw [tokStart_rem hc e]; have := remEnd_lt hc e; omega) (fun i c hc e hb ih => by rw [tokStart_blank hc e hb]; omega) (fun i c hc e hb => by rw [tokStart_stop hc e hb]; exact Nat.le_refl _) _ i (Nat.le_refl _)
theorem tokStart_at {b : By} {i : Nat} : ∀ {c : UInt8}, b[tokStart b i]? = some c → VakepBase.isBlank c = false ∧ c ≠ 35 :=
  fun {c} => start_ind (b := b) (M := fun i => b[tokStart b i]? = some c → VakepBase.isBlank c = false ∧ c ≠ 35) (fun i h q => by rw [tokStart_end h] at q; have := (at_get q).1; omega)
    (fun i d hc e ih => by rw [tokStart_rem hc e]; exact ih) (fun i d hc e hb ih => by rw [tokStart_blank hc e hb]; exact ih)
    (fun i d hc e hb q => by
      rw [tokStart_stop hc e hb, hc] at q
      have z := Option.some.inj q
      rw [← z]
      exact ⟨hb, e⟩) _ i (Nat.le_refl _)
/-! ### tokens_of -/
def toksEnds (C CF : Addr) (b : By) (H : Hp) (Q : VK) (E : XK) : Prop := match lexAt b 0 with
  | .error f => FP CF H E f.code f.place
  | .ok ts => ∀ (H' : Hp) (p : Addr), Same H H' → H p = none → ToksAt C H' p ts → Q (.ref p) H'
def spToks (K : PySem.W.Frag) (C CF : Addr) : Sp := fun vs H Q E => ∃ (a : Addr) (b : By), vs = [.ref a] ∧ SqL K H a (bL b) ∧ b.length ≤ 10000 ∧ toksEnds C CF b H Q E
theorem scToks : FnScope ["text", "tokens", "at", "token"] ["text"] (defScope s_tokens_of) := ⟨rfl, rfl, rfl, by decide +kernel, rfl, by decide +kernel, by decide +kernel⟩
theorem ok_toks {C CF : Addr} (T : TokC K C) (hl : mg "len" = none) (D : DefAt K mg "tokens_of" s_tokens_of)
    (Rs : Ok P w K mg base CX0 2 "token_start" ["text", "at"] (spStart K)) (RT : OkI P w K mg base CX0 1 C "Token" ["self", "kind", "place", "after"] (spTokI C))
    (Rt : Ok P w K mg base (L2.CX P w) 4 "token_at" ["text", "at"] (spTok K C CF)) : Ok P w K mg base (L2.CX P w) 5 "tokens_of" ["text"] (spToks K C CF) := by
  refine Ok.mk' D (fun f fd F => F.okX scToks (fun vs H Q E h => ?_) (fun cdv A outer s H vs Q E hr h => ?_)) (fun _ _ _ _ _ _ us hl => match us, hl with | [_], _ => rfl)
  · obtain ⟨a, b, rfl, _⟩ := h
    rfl
  · obtain ⟨a, b, rfl, hs, hlen, h⟩ := h
    have hr2 : Room 2 _ := hr.mono (by decide)
    refine ⟨_, pss_cons (ps_set (i := 1) scToks.nd rfl (.inl rfl) (pe_lst pa_nil))
      (pss_cons (ps_set (i := 2) scToks.nd rfl (.inl rfl) (cl Rs hr2 pass0 (pa_cons (pv 0) (pa_cons pe_int pa_nil))))
      (pss_cons (ps_while (passes_of rfl) (pt_cmpR op_lt (pv 2) (pe_callB call_len_seq (by rfl) hl PySem.boot_len (pa_cons (pv 0) pa_nil)) (nomark _))
        (pss_cons (ps_set (i := 3) scToks.nd rfl (.inl rfl) (cl Rt hr pout (pa_cons (pv 0) (pa_cons (pv 2) pa_nil))))
        (pss_cons (ps_expr (pe_bm PySem.F.plainAttrs_list PySem.F.slot_list_append PySem.F.type_list_append mt_append (pv 1) (pa_cons (pv 3) pa_nil)))
        (pss_one (ps_set (i := 2) scToks.nd rfl (.inl rfl) (cl Rs hr2 pass0 (pa_cons (pv 0) (pa_cons (pe_fld (pv 3) rfl) pa_nil))))))))
      (pss_cons (ps_expr (pe_bm PySem.F.plainAttrs_list PySem.F.slot_list_append PySem.F.type_list_append mt_append (pv 1) (pa_cons (ci RT hr2 pass0 (pa_cons pe_str (pa_cons (pv 2) (pa_cons (pv 2) pa_nil)))) pa_nil)))
      (pss_one (ps_ret (pv 1)))))), ?_⟩
    refine ⟨(by show 0 ≤ sizeLine; exact Nat.zero_le _), fun l hl0 => ?_⟩
    have s0 : Same H (upd H l (.lst [])) := Same.new hl0
    refine ⟨_, rfl, a, b, 0, rfl, s0.seq hs, Nat.zero_le _, ?_⟩
    have hsz : sizeLine = 16777216 := sizeLine_eq
    -- what is made so far, and the rest
    refine wh (fun m σ H' => ∃ (j : Nat) (v : Option V) (ts : List PTok) (as : List Addr), σ = [some (.ref a), some (.ref l), some (.int (tokStart b j)), v] ∧ Same H H' ∧ H' l = some (.lst (as.map V.ref)) ∧ All2 (TokO C H') as ts ∧ j ≤ b.length ∧ ts.length ≤ j ∧
        lexAt b 0 = (lexAt b j).map (fun r => ts ++ r) ∧ m = b.length - tokStart b j)
      (fun σ H' => ∃ (j : Nat) (v : Option V) (ts : List PTok) (as : List Addr), σ = [some (.ref a), some (.ref l), some (.int j), v] ∧ Same H H' ∧ H' l = some (.lst (as.map V.ref)) ∧ All2 (TokO C H') as ts ∧ j = b.length ∧ ts.length ≤ j ∧
        lexAt b 0 = (lexAt b j).map (fun r => ts ++ r)) _ ⟨0, none, [], [], rfl, s0, upd_same, .nil, Nat.zero_le _, Nat.le_refl _, ?_, rfl⟩ ?_ ?_
    · cases lexAt b 0 <;> rfl
    · rintro σ H' ⟨j, v, ts, as, rfl, s1, hl1, r1, hj, htl, e1⟩
      have e2 : lexAt b 0 = .ok (ts ++ [⟨j, .last⟩]) := by
        rw [e1, lexAt_end (b := b) (i := j) (by omega)]
        rfl
      have hal : as.length = ts.length := r1.len
      refine ⟨_, rfl, .inl ⟨rfl, _, SqL.of hl1⟩, _, rfl, _, rfl, fun x dx hx hdx hne => ⟨x, dx, _, _, _, rfl, upd_same, fun H2 hx2 fr => ⟨rfl, ?_⟩⟩⟩
      have s2 : Same H' H2 := Same.made hx hdx fr
      refine ⟨l, _, _, rfl, rfl, s2 _ _ hl1, (by rw [List.length_map]; omega), ?_⟩
      refine ⟨_, rfl, ?_⟩
      unfold toksEnds at h
      rw [e2] at h
      refine h _ l (fun q o z => ?_) hl0 ⟨as ++ [x], ?_, ?_⟩
      · rw [upd_ne (ne_of_none z hl0)]
        exact s2 _ _ (s1 _ _ z)
      · rw [upd_same, List.map_append]
        rfl
      · have hnl : ∀ q t, TokO C H2 q t → TokO C (upd H2 l (.lst (as.map V.ref ++ [V.ref x]))) q t := fun q t ⟨af, d, z⟩ => ⟨af, d, by
          rw [upd_ne (ne_of z (s2 _ _ hl1) (by intro z; cases z))]
          exact z⟩
        refine All2.snoc (hnl _ _ ⟨(j : Int), dx, ?_⟩) (r1.imp fun q t z => hnl _ _ (z.same s2))
        exact hx2
    · rintro fin m σ H' ⟨j, v, ts, as, rfl, s1, hl1, r1, hj, htl, e1, rfl⟩
      have hle := tokStart_le (b := b) hj
      have hge := tokStart_ge (b := b) (i := j)
      have hal : as.length = ts.length := r1.len
      refine ⟨_, rfl, _, rfl, _, _, rfl, .inl (s1.seq hs), _, _, rfl, rfl, _, rfl, ?_⟩
      rw [bL_len]
      refine ited (fun h1 => ⟨_, fun _ _ z => z, ?_⟩) (fun h1 => ?_)
      · obtain ⟨c, hc⟩ : ∃ c, b[tokStart b j]? = some c := ⟨_, List.getElem?_eq_getElem (by omega)⟩
        obtain ⟨nb, n35⟩ := tokStart_at hc
        refine ⟨_, rfl, _, rfl, a, b, tokStart b j, c, rfl, s1.seq hs, hc, ?_⟩
        unfold tokEnds
        cases et : VakepBase.token (b.drop (tokStart b j)) with
        | none =>
          have e2 : lexAt b 0 = .error ⟨2, tokStart b j⟩ := by
            rw [e1, lexAt_start, lexAt_none hc nb n35 et]
            rfl
          unfold toksEnds at h
          rw [e2] at h
          exact fun d H2 s2 q => h d H2 (s1.trans s2) q
        | some x =>
          intro H2 p s2 hp hto
          have hx := token_len et
          rw [List.length_drop] at hx
          obtain ⟨dx, hpo⟩ := hto
          refine ⟨_, rfl, .inl ⟨rfl, _, SqL.of (s2 _ _ hl1)⟩, _, rfl, l, _, _, rfl, rfl, s2 _ _ hl1, (by rw [List.length_map]; omega), ?_⟩
          have hpl : p ≠ l := fun z => by rw [z, hl1] at hp; cases hp
          have s3 : Same H (upd H2 l (.lst (as.map V.ref ++ [V.ref p]))) := fun q o z => by
            rw [upd_ne (ne_of_none z hl0)]
            exact s2 _ _ (s1 _ _ z)
          refine ⟨_, rfl, _, rfl, p, C, dx, _, _, rfl, (upd_ne hpl).trans hpo, T.cl, T.after, tokF_after, a, b, tokStart b j + x.2, rfl, s3.seq hs, by omega, ?_⟩
          have hge2 := tokStart_ge (b := b) (i := tokStart b j + x.2)
          have hnl : ∀ q t, TokO C H2 q t → TokO C (upd H2 l (.lst (as.map V.ref ++ [V.ref p]))) q t := fun q t ⟨af, d, z⟩ => ⟨af, d, by
            rw [upd_ne (ne_of z (s2 _ _ hl1) (by intro z; cases z))]
            exact z⟩
          refine ⟨_, by omega, tokStart b j + x.2, _, ts ++ [⟨tokStart b j, x.1⟩], as ++ [p], rfl, s3, ?_, All2.snoc (hnl _ _ ⟨_, dx, hpo⟩) (r1.imp fun q t z => hnl _ _ (z.same s2)), by omega, ?_, ?_, rfl⟩
          · rw [upd_same, List.map_append]
            rfl
          · rw [List.length_append, List.length_singleton]
            omega
          · rw [e1, lexAt_start, lexAt_some hc nb n35 et]
            cases lexAt b (tokStart b j + x.2) with
            | error f => rfl
            | ok r => exact congrArg Except.ok (List.append_assoc ts [(⟨tokStart b j, x.1⟩ : PTok)] r).symm
      · refine fin _ _ ⟨tokStart b j, v, ts, as, rfl, s1, hl1, r1, by omega, by omega, ?_⟩
        rw [← lexAt_start]
        exact e1
end
end Pk
end
section
set_option Elab.async false
set_option linter.all false
set_option maxRecDepth 100000
set_option maxHeartbeats 4000000
namespace Pk
open PySem PySem.Spec PyProof.Rows L2
open Vakepa (Piece Part Prog Raw RawPart)
abbrev VStmt := Vakepa.Stmt
/-- where the classes stand -/
structure Cs where
  say : Addr
  call : Addr
  make : Addr
  when_ : Addr
  part : Addr
  prog : Addr
  run : Addr
  tok : Addr
  reader : Addr
  held : Addr
  fault : Addr
/-- a class and its attributes' names -/
structure ClsN (K : PySem.W.Frag) (C : Addr) (ns : List Str) : Prop where
  cl : Cls K C
  no : ∀ n ∈ ns, NoAttr K C n
def nsSay : List Str := ["number"]
def nsCall : List Str := ["name"]
def nsMake : List Str := ["pieces"]
def nsWhen : List Str := ["setting", "word", "body"]
def nsPart : List Str := ["size", "body"]
def nsProg : List Str := ["settings", "numbers", "parts", "entries"]
def nsRun : List Str := ["program", "chosen", "entered", "done", "end"]
def nsReader : List Str := ["tokens", "at", "program", "called"]
def nsHeld : List Str := ["program", "plan"]
structure CsT (K : PySem.W.Frag) (c : Cs) : Prop where
  say : ClsN K c.say nsSay
  call : ClsN K c.call nsCall
  make : ClsN K c.make nsMake
  when_ : ClsN K c.when_ nsWhen
  part : ClsN K c.part nsPart
  prog : ClsN K c.prog nsProg
  run : ClsN K c.run nsRun
  tok : TokC K c.tok
  reader : ClsN K c.reader nsReader
  held : ClsN K c.held nsHeld
/-- an instance of the class at C with these attributes -/
def ObjAt (C : Addr) (H : Hp) (o : Addr) (fs : List (Str × V)) : Prop := ∃ dx, H o = some (.ins C dx fs)
theorem ObjAt.same {C o : Addr} {H H' : Hp} {fs : List (Str × V)} (s : Same H H') (h : ObjAt C H o fs) : ObjAt C H' o fs := by
  obtain ⟨dx, e⟩ := h
  exact ⟨dx, s _ _ e⟩
def sayF (k : Int) : List (Str × V) := [("number", .int k)]
def callF (n : Str) : List (Str × V) := [("name", .str n)]
def makeF (q : Addr) : List (Str × V) := [("pieces", .ref q)]
def whenF (x v : Str) (q : Addr) : List (Str × V) := [("setting", .str x), ("word", .str v), ("body", .ref q)]
def partF (k : Int) (q : Addr) : List (Str × V) := [("size", .int k), ("body", .ref q)]
def progF (s n p e : Addr) : List (Str × V) := [("settings", .ref s), ("numbers", .ref n), ("parts", .ref p), ("entries", .ref e)]
def runF (g c l : Addr) (n e : Int) : List (Str × V) := [("program", .ref g), ("chosen", .ref c), ("entered", .ref l), ("done", .int n), ("end", .int e)]
def readerF (t : Addr) (j : Int) (g q : Addr) : List (Str × V) := [("tokens", .ref t), ("at", .int j), ("program", .ref g), ("called", .ref q)]
def heldF (p : V) (l : Addr) : List (Str × V) := [("program", p), ("plan", .ref l)]
/-! ### an __init__ that stores its arguments -/
def spI (C : Addr) (mk : List V → List (Str × V)) (n : Nat) : Sp := fun vs H Q _ => ∃ (p dx : Addr) (ws : List V), vs = .ref p :: ws ∧ ws.length = n ∧ H p = some (.ins C dx []) ∧
  ∀ H', H' p = some (.ins C dx (mk ws)) → (∀ b o, H b = some o → b ≠ p → H' b = some o) → Q .non H'
section
variable {P : Program} {w : World} {K : PySem.W.Frag} {mg : Str → Option Value} {base : Heap} {C : Addr}
def mk1 (a : Str) : List V → List (Str × V)
  | [v] => [(a, v)]
  | _ => []
def mk2 (a b : Str) : List V → List (Str × V)
  | [v, w] => [(a, v), (b, w)]
  | _ => []
def mk3 (a b c : Str) : List V → List (Str × V)
  | [v, w, x] => [(a, v), (b, w), (c, x)]
  | _ => []
theorem len1 {ws : List V} (h : ws.length = 1) : ∃ v, ws = [v] := by
  match ws, h with
  | [v], _ => exact ⟨v, rfl⟩
theorem len2 {ws : List V} (h : ws.length = 2) : ∃ v u, ws = [v, u] := by
  match ws, h with
  | [v, u], _ => exact ⟨v, u, rfl⟩
theorem len3 {ws : List V} (h : ws.length = 3) : ∃ v u x, ws = [v, u, x] := by
  match ws, h with
  | [v, u, x], _ => exact ⟨v, u, x, rfl⟩
theorem put2 {a b : Str} {v w : V} (h : (a == b) = false) : putF b w (putF a v []) = [(a, v), (b, w)] := by
  have h' : ¬ a = b := by simpa using h
  show putF b w [(a, v)] = _
  rw [put_past h']
  rfl
theorem put3 {a b c : Str} {v w x : V} (h : (a == b) = false) (h2 : (a == c) = false) (h3 : (b == c) = false) : putF c x (putF b w (putF a v [])) = [(a, v), (b, w), (c, x)] := by
  have k2 : ¬ a = c := by simpa using h2
  have k3 : ¬ b = c := by simpa using h3
  rw [put2 h, put_past k2, put_past k3]
  rfl
theorem scSay : FnScope ["self", "number"] ["self", "number"] (defScope s_Say_init) := ⟨rfl, rfl, rfl, by decide +kernel, rfl, by decide +kernel, by decide +kernel⟩
theorem ok_sayI (T : ClsN K C nsSay) (D : InitAt K mg C "Say" "Say.__init__" s_Say_init) : OkI P w K mg base CX0 1 C "Say" ["self", "number"] (spI C (mk1 "number") 1) := by
  refine OkI.mk' D (fun f fd F => F.ok scSay (fun vs H Q E h => ?_) (fun cdv A outer s H vs Q E hr h => ?_)) (fun _ _ _ _ _ _ us hl => match us, hl with | [_, _], _ => rfl)
  · obtain ⟨p, dx, ws, rfl, hl, _⟩ := h
    obtain ⟨v, rfl⟩ := len1 hl
    rfl
  · obtain ⟨p, dx, ws, rfl, hl, hp, h⟩ := h
    obtain ⟨v, rfl⟩ := len1 hl
    exact ⟨_, pss_one (ps_fld (pv 0) (pv 1) rfl), ⟨_, rfl, _, rfl, p, C, dx, _, rfl, hp, T.cl, T.no _ (by decide), (by decide), h _ upd_same (fun b o e n => by rw [upd_ne n]; exact e)⟩⟩
theorem scCall : FnScope ["self", "name"] ["self", "name"] (defScope s_Call_init) := ⟨rfl, rfl, rfl, by decide +kernel, rfl, by decide +kernel, by decide +kernel⟩
theorem ok_callI (T : ClsN K C nsCall) (D : InitAt K mg C "Call" "Call.__init__" s_Call_init) : OkI P w K mg base CX0 1 C "Call" ["self", "name"] (spI C (mk1 "name") 1) := by
  refine OkI.mk' D (fun f fd F => F.ok scCall (fun vs H Q E h => ?_) (fun cdv A outer s H vs Q E hr h => ?_)) (fun _ _ _ _ _ _ us hl => match us, hl with | [_, _], _ => rfl)
  · obtain ⟨p, dx, ws, rfl, hl, _⟩ := h
    obtain ⟨v, rfl⟩ := len1 hl
    rfl
  · obtain ⟨p, dx, ws, rfl, hl, hp, h⟩ := h
    obtain ⟨v, rfl⟩ := len1 hl
    exact ⟨_, pss_one (ps_fld (pv 0) (pv 1) rfl), ⟨_, rfl, _, rfl, p, C, dx, _, rfl, hp, T.cl, T.no _ (by decide), (by decide), h _ upd_same (fun b o e n => by rw [upd_ne n]; exact e)⟩⟩
theorem scMake : FnScope ["self", "pieces"] ["self", "pieces"] (defScope s_Make_init) := ⟨rfl, rfl, rfl, by decide +kernel, rfl, by decide +kernel, by decide +kernel⟩
theorem ok_makeI (T : ClsN K C nsMake) (D : InitAt K mg C "Make" "Make.__init__" s_Make_init) : OkI P w K mg base CX0 1 C "Make" ["self", "pieces"] (spI C (mk1 "pieces") 1) := by
  refine OkI.mk' D (fun f fd F => F.ok scMake (fun vs H Q E h => ?_) (fun cdv A outer s H vs Q E hr h => ?_)) (fun _ _ _ _ _ _ us hl => match us, hl with | [_, _], _ => rfl)
  · obtain ⟨p, dx, ws, rfl, hl, _⟩ := h
    obtain ⟨v, rfl⟩ := len1 hl
    rfl
  · obtain ⟨p, dx, ws, rfl, hl, hp, h⟩ := h
    obtain ⟨v, rfl⟩ := len1 hl
    exact ⟨_, pss_one (ps_fld (pv 0) (pv 1) rfl), ⟨_, rfl, _, rfl, p, C, dx, _, rfl, hp, T.cl, T.no _ (by decide), (by decide), h _ upd_same (fun b o e n => by rw [upd_ne n]; exact e)⟩⟩
theorem scPart : FnScope ["self", "size", "body"] ["self", "size", "body"] (defScope s_Part_init) := ⟨rfl, rfl, rfl, by decide +kernel, rfl, by decide +kernel, by decide +kernel⟩
theorem ok_partI (T : ClsN K C nsPart) (D : InitAt K mg C "Part" "Part.__init__" s_Part_init) : OkI P w K mg base CX0 1 C "Part" ["self", "size", "body"] (spI C (mk2 "size" "body") 2) := by
  refine OkI.mk' D (fun f fd F => F.ok scPart (fun vs H Q E h => ?_) (fun cdv A outer s H vs Q E hr h => ?_)) (fun _ _ _ _ _ _ us hl => match us, hl with | [_, _, _], _ => rfl)
  · obtain ⟨p, dx, ws, rfl, hl, _⟩ := h
    obtain ⟨v, u, rfl⟩ := len2 hl
    rfl
  · obtain ⟨p, dx, ws, rfl, hl, hp, h⟩ := h
    obtain ⟨v, u, rfl⟩ := len2 hl
    refine ⟨_, pss_cons (ps_fld (pv 0) (pv 1) rfl) (pss_one (ps_fld (pv 0) (pv 2) rfl)), ?_⟩
    refine ⟨_, rfl, _, rfl, p, C, dx, _, rfl, hp, T.cl, T.no _ (by decide), (by decide), ?_⟩
    refine ⟨_, rfl, _, rfl, p, C, dx, _, rfl, upd_same, T.cl, T.no _ (by decide), (by show 1 < 1000; decide), ?_⟩
    exact h _ (upd_same.trans (congrArg (fun q => some (HO.ins C dx q)) (put2 (by decide +kernel)))) (fun b o e n => by rw [upd_ne n, upd_ne n]; exact e)
theorem scWhen : FnScope ["self", "setting", "word", "body"] ["self", "setting", "word", "body"] (defScope s_When_init) := ⟨rfl, rfl, rfl, by decide +kernel, rfl, by decide +kernel, by decide +kernel⟩
theorem ok_whenI (T : ClsN K C nsWhen) (D : InitAt K mg C "When" "When.__init__" s_When_init) : OkI P w K mg base CX0 1 C "When" ["self", "setting", "word", "body"] (spI C (mk3 "setting" "word" "body") 3) := by
  refine OkI.mk' D (fun f fd F => F.ok scWhen (fun vs H Q E h => ?_) (fun cdv A outer s H vs Q E hr h => ?_)) (fun _ _ _ _ _ _ us hl => match us, hl with | [_, _, _, _], _ => rfl)
  · obtain ⟨p, dx, ws, rfl, hl, _⟩ := h
    obtain ⟨v, u, x, rfl⟩ := len3 hl
    rfl
  · obtain ⟨p, dx, ws, rfl, hl, hp, h⟩ := h
    obtain ⟨v, u, x, rfl⟩ := len3 hl
    refine ⟨_, pss_cons (ps_fld (pv 0) (pv 1) rfl) (pss_cons (ps_fld (pv 0) (pv 2) rfl) (pss_one (ps_fld (pv 0) (pv 3) rfl))), ?_⟩
    refine ⟨_, rfl, _, rfl, p, C, dx, _, rfl, hp, T.cl, T.no _ (by decide), (by decide), ?_⟩
    refine ⟨_, rfl, _, rfl, p, C, dx, _, rfl, upd_same, T.cl, T.no _ (by decide), (by show 1 < 1000; decide), ?_⟩
    refine ⟨_, rfl, _, rfl, p, C, dx, _, rfl, upd_same, T.cl, T.no _ (by decide), (by show 2 < 1000; decide), ?_⟩
    exact h _ (upd_same.trans (congrArg (fun q => some (HO.ins C dx q)) (put3 (by decide +kernel) (by decide +kernel) (by decide +kernel)))) (fun b o e n => by rw [upd_ne n, upd_ne n, upd_ne n]; exact e)
/-- Program(): four new things -/
def spProgI (C : Addr) : Sp := fun vs H Q _ => ∃ (p dx : Addr), vs = [.ref p] ∧ H p = some (.ins C dx []) ∧
  ∀ (H' : Hp) (s n l e : Addr), H' p = some (.ins C dx (progF s n l e)) → H' s = some (.dK []) → H' n = some (.dK []) → H' l = some (.lst []) → H' e = some (.lst []) → (H s = none ∧ H n = none ∧ H l = none ∧ H e = none) → s ≠ n → l ≠ e → (∀ b o, H b = some o → b ≠ p → H' b = some o) → Q .non H'
theorem scProg : FnScope ["self"] ["self"] (defScope s_Program_init) := ⟨rfl, rfl, rfl, by decide +kernel, rfl, by decide +kernel, by decide +kernel⟩
theorem ok_progI (T : ClsN K C nsProg) (D : InitAt K mg C "Program" "Program.__init__" s_Program_init) : OkI P w K mg base CX0 1 C "Program" ["self"] (spProgI C) := by
  refine OkI.mk' D (fun f fd F => F.ok scProg (fun vs H Q E h => ?_) (fun cdv A outer s H vs Q E hr h => ?_)) (fun _ _ _ _ _ _ us hl => match us, hl with | [_], _ => rfl)
  · obtain ⟨p, dx, rfl, _⟩ := h
    rfl
  · obtain ⟨p, dx, rfl, hp, h⟩ := h
    refine ⟨_, pss_cons (ps_fld (pv 0) pe_dnewK rfl) (pss_cons (ps_fld (pv 0) pe_dnewK rfl) (pss_cons (ps_fld (pv 0) (pe_lst pa_nil) rfl) (pss_one (ps_fld (pv 0) (pe_lst pa_nil) rfl)))), ?_⟩
    intro s1 h1
    have n1 : p ≠ s1 := ne_of_none hp h1
    refine ⟨_, rfl, p, C, dx, _, rfl, (upd_ne n1).trans hp, T.cl, T.no _ (by decide), (by decide), ?_⟩
    intro s2 h2
    have n2 : p ≠ s2 := ne_of_none upd_same h2
    have n12 : s1 ≠ s2 := ne_of_none (o := .dK []) (by rw [upd_ne (Ne.symm n1), upd_same]) h2
    refine ⟨_, rfl, p, C, dx, _, rfl, (upd_ne n2).trans upd_same, T.cl, T.no _ (by decide), (by show 1 < 1000; decide), ?_⟩
    refine ⟨Nat.zero_le _, fun s3 h3 => ?_⟩
    have n3 : p ≠ s3 := ne_of_none upd_same h3
    have n13 : s1 ≠ s3 := ne_of_none (o := .dK []) (by rw [upd_ne (Ne.symm n1), upd_ne n12, upd_ne (Ne.symm n1), upd_same]) h3
    have n23 : s2 ≠ s3 := ne_of_none (o := .dK []) (by rw [upd_ne (Ne.symm n2), upd_same]) h3
    refine ⟨_, rfl, p, C, dx, _, rfl, (upd_ne n3).trans upd_same, T.cl, T.no _ (by decide), (by show 2 < 1000; decide), ?_⟩
    refine ⟨Nat.zero_le _, fun s4 h4 => ?_⟩
    have n4 : p ≠ s4 := ne_of_none upd_same h4
    have n14 : s1 ≠ s4 := ne_of_none (o := .dK []) (by rw [upd_ne (Ne.symm n1), upd_ne n13, upd_ne (Ne.symm n1), upd_ne n12, upd_ne (Ne.symm n1), upd_same]) h4
    have n24 : s2 ≠ s4 := ne_of_none (o := .dK []) (by rw [upd_ne (Ne.symm n2), upd_ne n23, upd_ne (Ne.symm n2), upd_same]) h4
    have n34 : s3 ≠ s4 := ne_of_none (o := .lst []) (by rw [upd_ne (Ne.symm n3), upd_same]) h4
    refine ⟨_, rfl, p, C, dx, _, rfl, (upd_ne n4).trans upd_same, T.cl, T.no _ (by decide), (by show 3 < 1000; decide), ?_⟩
    refine h _ s1 s2 s3 s4 (upd_same.trans (congrArg (fun q => some (HO.ins C dx q)) ?_)) ?_ ?_ ?_ ?_ ⟨h1, ?_, ?_, ?_⟩ n12 n34 (fun b o e n => ?_)
    · show putF "entries" (.ref s4) (putF "parts" (.ref s3) (putF "numbers" (.ref s2) (putF "settings" (.ref s1) []))) = _
      kernel_rfl
    · rw [upd_ne (Ne.symm n1), upd_ne n14, upd_ne (Ne.symm n1), upd_ne n13, upd_ne (Ne.symm n1), upd_ne n12, upd_ne (Ne.symm n1), upd_same]
    · rw [upd_ne (Ne.symm n2), upd_ne n24, upd_ne (Ne.symm n2), upd_ne n23, upd_ne (Ne.symm n2), upd_same]
    · rw [upd_ne (Ne.symm n3), upd_ne n34, upd_ne (Ne.symm n3), upd_same]
    · rw [upd_ne (Ne.symm n4), upd_same]
    · rw [upd_ne (Ne.symm n2), upd_ne (Ne.symm n12)] at h2
      exact h2
    · rw [upd_ne (Ne.symm n3), upd_ne (Ne.symm n23), upd_ne (Ne.symm n3), upd_ne (Ne.symm n13)] at h3
      exact h3
    · rw [upd_ne (Ne.symm n4), upd_ne (Ne.symm n34), upd_ne (Ne.symm n4), upd_ne (Ne.symm n24), upd_ne (Ne.symm n4), upd_ne (Ne.symm n14)] at h4
      exact h4
    · have m1 : b ≠ s1 := ne_of_none e h1
      have m2 : b ≠ s2 := ne_of_none (o := o) (by rw [upd_ne n, upd_ne m1]; exact e) h2
      have m3 : b ≠ s3 := ne_of_none (o := o) (by rw [upd_ne n, upd_ne m2, upd_ne n, upd_ne m1]; exact e) h3
      have m4 : b ≠ s4 := ne_of_none (o := o) (by rw [upd_ne n, upd_ne m3, upd_ne n, upd_ne m2, upd_ne n, upd_ne m1]; exact e) h4
      rw [upd_ne n, upd_ne m4, upd_ne n, upd_ne m3, upd_ne n, upd_ne m2, upd_ne n, upd_ne m1]
      exact e
end
end Pk
end
section
set_option Elab.async false
set_option linter.all false
set_option maxRecDepth 100000
set_option maxHeartbeats 4000000
namespace Pk
open PySem PySem.Spec PyProof.Rows L2
open Vakepa (Piece Part Prog Raw RawPart)
abbrev VSet := Vakepa.Setting
/-! ### settings, numbers, as dicts -/
def sV (b : By) : V := .str (toStr b)
def kS (b : By) : Key := .inr (toStr b)
theorem kS_inj {a b : By} (h : kS a = kS b) : a = b := toStr_inj (Sum.inr.inj h)
/-- an entry of the dict of settings -/
def SetAt (H : Hp) (kv : Key × V) (s : VSet) : Prop := kv.1 = kS s.name ∧ ∃ a : Addr, kv.2 = .ref a ∧ H a = some (.lst (s.values.map sV))
theorem SetAt.same {H H' : Hp} (e : Same H H') {kv : Key × V} {s : VSet} (h : SetAt H kv s) : SetAt H' kv s := by
  obtain ⟨h1, a, h2, h3⟩ := h
  exact ⟨h1, a, h2, e _ _ h3⟩
def numsFrom : Nat → List By → List (Key × V)
  | _, [] => []
  | n, x :: r => (kS x, .int n) :: numsFrom (n + 1) r
theorem nums_len : ∀ (n : Nat) (l : List By), (numsFrom n l).length = l.length
  | _, [] => rfl
  | n, x :: r => by
    show (numsFrom (n + 1) r).length + 1 = r.length + 1
    rw [nums_len]
theorem nums_snoc : ∀ (n : Nat) (l : List By) (x : By), numsFrom n (l ++ [x]) = numsFrom n l ++ [(kS x, .int ((n + l.length : Nat) : Int))]
  | n, [], x => rfl
  | n, y :: r, x => by
    show (kS y, V.int n) :: numsFrom (n + 1) (r ++ [x]) = (kS y, V.int n) :: (numsFrom (n + 1) r ++ _)
    rw [nums_snoc]
    have e : n + 1 + r.length = n + (y :: r).length := by
      rw [List.length_cons]
      omega
    rw [e]
theorem nums_val : ∀ (n : Nat) (l : List By) (x : By), valV (numsFrom n l) (kS x) = (l.findIdx? fun y => y == x).map fun i => V.int ((n + i : Nat) : Int)
  | n, [], x => rfl
  | n, y :: r, x => by
    show valV ((kS y, V.int n) :: numsFrom (n + 1) r) (kS x) = _
    rw [List.findIdx?_cons]
    by_cases e : y = x
    · subst e
      rw [valV_pos rfl, if_pos (beq_self_eq_true y)]
      rfl
    · rw [valV_neg (fun z => e (kS_inj z)), if_neg (by simpa using e), nums_val, Option.map_map]
      congr 1
      funext i
      show V.int _ = V.int _
      congr 1
      have : n + 1 + i = n + (i + 1) := by omega
      rw [this]
theorem sets_val {H : Hp} : ∀ {kvs : List (Key × V)} {ss : List VSet} (x : By), All2 (SetAt H) kvs ss → match ss.findIdx? fun s => s.name == x with
    | none => valV kvs (kS x) = none
    | some k => ∃ (a : Addr) (s : VSet), ss[k]? = some s ∧ s.name = x ∧ valV kvs (kS x) = some (.ref a) ∧ H a = some (.lst (s.values.map sV))
  | _, _, x, .nil => rfl
  | kv :: kvs, s :: ss, x, .cons h t => by
    rw [List.findIdx?_cons]
    obtain ⟨k1, a, k2, k3⟩ := h
    by_cases e : s.name = x
    · rw [if_pos (by rw [e]; exact beq_self_eq_true x)]
      exact ⟨a, s, rfl, e, by rw [valV_pos (by rw [k1, e]), k2], k3⟩
    · rw [if_neg (by simpa using e)]
      have ih := sets_val x t
      have ne : ¬ kv.1 = kS x := fun z => e (kS_inj (k1.symm.trans z))
      rw [valV_neg ne]
      cases q : ss.findIdx? fun s => s.name == x with
      | none =>
        rw [q] at ih
        exact ih
      | some k =>
        rw [q] at ih
        exact ih
/-! ### a body's statements -/
def pieceName (ss : List VSet) : Piece → By
  | .set k => ((ss[k]?).map fun s => s.name).getD []
  | .word b => b
def setName (ss : List VSet) (x : Nat) : By := ((ss[x]?).map fun s => s.name).getD []
def setWord (ss : List VSet) (x v : Nat) : By := ((ss[x]?).bind fun s => s.values[v]?).getD []
/-- the objects of a body, as it is read (calls by name) -/
def RawL (c : Cs) (ss : List VSet) (H : Hp) : Raw → List V → Prop
  | .done, xs => xs = []
  | .say k r, xs => ∃ (o : Addr) (ys : List V), xs = .ref o :: ys ∧ ObjAt c.say H o (sayF k) ∧ RawL c ss H r ys
  | .call p r, xs => ∃ (o : Addr) (ys : List V), xs = .ref o :: ys ∧ ObjAt c.call H o (callF (toStr p.name)) ∧ RawL c ss H r ys
  | .make ps r, xs => ∃ (o q : Addr) (ys : List V), xs = .ref o :: ys ∧ ObjAt c.make H o (makeF q) ∧ H q = some (.lst (ps.map fun z => sV (pieceName ss z))) ∧ RawL c ss H r ys
  | .when_ x v b r, xs => ∃ (o q : Addr) (zs ys : List V), xs = .ref o :: ys ∧ ObjAt c.when_ H o (whenF (toStr (setName ss x)) (toStr (setWord ss x v)) q) ∧ H q = some (.lst zs) ∧ RawL c ss H b zs ∧ RawL c ss H r ys
/-- .. as it is held (calls by number) -/
def BodyL (c : Cs) (ss : List VSet) (ns : List By) (H : Hp) : VStmt → List V → Prop
  | .done, xs => xs = []
  | .say k r, xs => ∃ (o : Addr) (ys : List V), xs = .ref o :: ys ∧ ObjAt c.say H o (sayF k) ∧ BodyL c ss ns H r ys
  | .call k r, xs => ∃ (o : Addr) (ys : List V) (n : By), xs = .ref o :: ys ∧ ns.findIdx? (fun y => y == n) = some k ∧ ObjAt c.call H o (callF (toStr n)) ∧ BodyL c ss ns H r ys
  | .make ps r, xs => ∃ (o q : Addr) (ys : List V), xs = .ref o :: ys ∧ ObjAt c.make H o (makeF q) ∧ H q = some (.lst (ps.map fun z => sV (pieceName ss z))) ∧ BodyL c ss ns H r ys
  | .when_ x v b r, xs => ∃ (o q : Addr) (zs ys : List V), xs = .ref o :: ys ∧ ObjAt c.when_ H o (whenF (toStr (setName ss x)) (toStr (setWord ss x v)) q) ∧ H q = some (.lst zs) ∧ BodyL c ss ns H b zs ∧ BodyL c ss ns H r ys
theorem RawL.same {c : Cs} {ss : List VSet} {H H' : Hp} (e : Same H H') : ∀ {r : Raw} {xs : List V}, RawL c ss H r xs → RawL c ss H' r xs
  | .done, _, h => h
  | .say _ _, _, ⟨o, ys, h1, h2, h3⟩ => ⟨o, ys, h1, h2.same e, RawL.same e h3⟩
  | .call _ _, _, ⟨o, ys, h1, h2, h3⟩ => ⟨o, ys, h1, h2.same e, RawL.same e h3⟩
  | .make _ _, _, ⟨o, q, ys, h1, h2, h3, h4⟩ => ⟨o, q, ys, h1, h2.same e, e _ _ h3, RawL.same e h4⟩
  | .when_ _ _ _ _, _, ⟨o, q, zs, ys, h1, h2, h3, h4, h5⟩ => ⟨o, q, zs, ys, h1, h2.same e, e _ _ h3, RawL.same e h4, RawL.same e h5⟩
theorem BodyL.same {c : Cs} {ss : List VSet} {ns : List By} {H H' : Hp} (e : Same H H') : ∀ {r : VStmt} {xs : List V}, BodyL c ss ns H r xs → BodyL c ss ns H' r xs
  | .done, _, h => h
  | .say _ _, _, ⟨o, ys, h1, h2, h3⟩ => ⟨o, ys, h1, h2.same e, BodyL.same e h3⟩
  | .call _ _, _, ⟨o, ys, n, h1, h0, h2, h3⟩ => ⟨o, ys, n, h1, h0, h2.same e, BodyL.same e h3⟩
  | .make _ _, _, ⟨o, q, ys, h1, h2, h3, h4⟩ => ⟨o, q, ys, h1, h2.same e, e _ _ h3, BodyL.same e h4⟩
  | .when_ _ _ _ _, _, ⟨o, q, zs, ys, h1, h2, h3, h4, h5⟩ => ⟨o, q, zs, ys, h1, h2.same e, e _ _ h3, BodyL.same e h4, BodyL.same e h5⟩
theorem RawL.solved {c : Cs} {ss : List VSet} {ns : List By} {H : Hp} : ∀ {r : Raw} {s : VStmt} {xs : List V}, Vakepa.solve ns r = .ok s → RawL c ss H r xs → BodyL c ss ns H s xs
  | .done, s, _, e, h => by
    have e : (Except.ok Vakepa.Stmt.done : Except VakepBase.Fault VStmt) = .ok s := e
    cases e
    exact h
  | .say k r, s, xs, e, ⟨o, ys, h1, h2, h3⟩ => by
    have e : (Vakepa.solve ns r).map (fun x => Vakepa.Stmt.say k x) = .ok s := e
    cases q : Vakepa.solve ns r with
    | error f => rw [q] at e; cases e
    | ok t =>
      rw [q] at e
      cases e
      exact ⟨o, ys, h1, h2, RawL.solved q h3⟩
  | .call p r, s, xs, e, ⟨o, ys, h1, h2, h3⟩ => by
    have e : (match ns.findIdx? fun y => y == p.name with
      | none => .error ⟨9, p.place⟩
      | some k => (Vakepa.solve ns r).map fun x => .call k x) = Except.ok s := e
    cases q0 : ns.findIdx? fun y => y == p.name with
    | none => rw [q0] at e; cases e
    | some k =>
      rw [q0] at e
      have e : (Vakepa.solve ns r).map (fun x => Vakepa.Stmt.call k x) = .ok s := e
      cases q : Vakepa.solve ns r with
      | error f => rw [q] at e; cases e
      | ok t =>
        rw [q] at e
        cases e
        exact ⟨o, ys, p.name, h1, q0, h2, RawL.solved q h3⟩
  | .make ps r, s, xs, e, ⟨o, q', ys, h1, h2, h3, h4⟩ => by
    have e : (Vakepa.solve ns r).map (fun x => Vakepa.Stmt.make ps x) = .ok s := e
    cases q : Vakepa.solve ns r with
    | error f => rw [q] at e; cases e
    | ok t =>
      rw [q] at e
      cases e
      exact ⟨o, q', ys, h1, h2, h3, RawL.solved q h4⟩
  | .when_ x v b r, s, xs, e, ⟨o, q', zs, ys, h1, h2, h3, h4, h5⟩ => by
    have e : ((Vakepa.solve ns b).bind fun y => (Vakepa.solve ns r).map fun z => Vakepa.Stmt.when_ x v y z) = .ok s := e
    cases q1 : Vakepa.solve ns b with
    | error f => rw [q1] at e; cases e
    | ok t1 =>
      rw [q1] at e
      have e : (Vakepa.solve ns r).map (fun z => Vakepa.Stmt.when_ x v t1 z) = .ok s := e
      cases q : Vakepa.solve ns r with
      | error f => rw [q] at e; cases e
      | ok t =>
        rw [q] at e
        cases e
        exact ⟨o, q', zs, ys, h1, h2, h3, RawL.solved q1 h4, RawL.solved q h5⟩
/-! ### a program as it is held -/
def PartAt (c : Cs) (ss : List VSet) (ns : List By) (H : Hp) (o : Addr) (x : Part) : Prop := ∃ (b : Addr) (xs : List V), ObjAt c.part H o (partF x.size b) ∧ H b = some (.lst xs) ∧ BodyL c ss ns H x.body xs
abbrev namesOf (p : Prog) : List By := p.parts.map fun x => x.name
/-- its addresses -/
structure PA where
  ds : Addr
  dn : Addr
  lp : Addr
  le : Addr
structure ProgAt (c : Cs) (H : Hp) (g : Addr) (a : PA) (p : Prog) (kvs : List (Key × V)) (os : List Addr) : Prop where
  obj : ObjAt c.prog H g (progF a.ds a.dn a.lp a.le)
  ds : H a.ds = some (.dK kvs)
  sets : All2 (SetAt H) kvs p.sets
  dn : H a.dn = some (.dK (numsFrom 0 (namesOf p)))
  lp : H a.lp = some (.lst (os.map V.ref))
  parts : All2 (PartAt c p.sets (namesOf p) H) os p.parts
  le : H a.le = some (.lst (p.starts.map fun (k : Nat) => V.int (k : Int)))
theorem PartAt.same {c : Cs} {ss : List VSet} {ns : List By} {H H' : Hp} (e : Same H H') {o : Addr} {x : Part} (h : PartAt c ss ns H o x) : PartAt c ss ns H' o x := by
  obtain ⟨b, xs, h1, h2, h3⟩ := h
  exact ⟨b, xs, h1.same e, e _ _ h2, h3.same e⟩
theorem ProgAt.same {c : Cs} {H H' : Hp} {g : Addr} {a : PA} {p : Prog} {kvs : List (Key × V)} {os : List Addr} (e : Same H H') (h : ProgAt c H g a p kvs os) : ProgAt c H' g a p kvs os :=
  ⟨h.obj.same e, e _ _ h.ds, h.sets.imp fun _ _ q => q.same e, e _ _ h.dn, e _ _ h.lp, h.parts.imp fun _ _ q => q.same e, e _ _ h.le⟩
def PieceOk (ss : List VSet) : Piece → Prop
  | .set k => k < ss.length
  | .word b => (∀ s ∈ ss, s.name ≠ b) ∧ b.length ≤ 16
def BodyOk (ss : List VSet) : VStmt → Prop
  | .done => True
  | .say k r => k ≤ 99 ∧ BodyOk ss r
  | .call _ r => BodyOk ss r
  | .make ps r => ps.length ≤ 3 ∧ (∀ z ∈ ps, PieceOk ss z) ∧ BodyOk ss r
  | .when_ x w b r => (∃ s, ss[x]? = some s ∧ w < s.values.length) ∧ BodyOk ss b ∧ BodyOk ss r
/-- how deep its whens stand -/
def wdep : VStmt → Nat
  | .done => 0
  | .say _ r => wdep r
  | .call _ r => wdep r
  | .make _ r => wdep r
  | .when_ _ _ b r => max (1 + wdep b) (wdep r)
/-- what is known of a program that was read -/
structure WF (p : Prog) : Prop where
  s3 : p.sets.length ≤ 3
  vals : ∀ s ∈ p.sets, 1 ≤ s.values.length ∧ s.values.length ≤ 4
  snd : (p.sets.map fun s => s.name).Nodup
  p10 : p.parts.length ≤ 10
  p1 : 1 ≤ p.parts.length
  e4 : p.starts.length ≤ 4
  e1 : 1 ≤ p.starts.length
  est : ∀ k ∈ p.starts, k < p.parts.length
  size : ∀ x ∈ p.parts, x.size ≤ 99
  vnd : ∀ s ∈ p.sets, s.values.Nodup ∧ (∀ v ∈ s.values, v.length ≤ 16)
  nd : (p.parts.map fun x => x.name).Nodup
  body : ∀ x ∈ p.parts, BodyOk p.sets x.body ∧ wdep x.body ≤ 3
  std : p.starts.Nodup
end Pk
end
section
set_option Elab.async false
set_option linter.all false
set_option maxRecDepth 100000
set_option maxHeartbeats 4000000
namespace Pk
open PySem PySem.Spec PyProof.Rows L2
open Vakepa (Piece Part Prog Raw RawPart)
theorem upd_self {H : Hp} {a : Addr} {o : HO} (h : H a = some o) : upd H a o = H := by
  funext b
  by_cases e : b = a
  · subst e
    rw [upd_same, h]
  · rw [upd_ne e]
theorem upd_back {H : Hp} {a : Addr} {o u : HO} (h : H a = some o) : upd (upd H a u) a o = H := by rw [upd_upd, upd_self h]
theorem progF_s {s n p e : Addr} : (progF s n p e).lookup ("settings" : Str) = some (.ref s) := by kernel_rfl
theorem progF_n {s n p e : Addr} : (progF s n p e).lookup ("numbers" : Str) = some (.ref n) := by kernel_rfl
theorem progF_p {s n p e : Addr} : (progF s n p e).lookup ("parts" : Str) = some (.ref p) := by kernel_rfl
theorem progF_e {s n p e : Addr} : (progF s n p e).lookup ("entries" : Str) = some (.ref e) := by kernel_rfl
/-! ### assignments -/
def prodTo (ss : List VSet) (i : Nat) : Nat := ((ss.take i).map fun s => s.values.length).foldl (fun x y => x * y) 1
theorem take_snocG {α : Type} {l : List α} {i : Nat} {x : α} (h : l[i]? = some x) : l.take (i + 1) = l.take i ++ [x] := take_snoc h
theorem prodTo_succ {ss : List VSet} {i : Nat} {s : VSet} (h : ss[i]? = some s) : prodTo ss (i + 1) = prodTo ss i * s.values.length := by
  unfold prodTo
  rw [take_snocG h, List.map_append, List.foldl_append]
  rfl
theorem prodTo_all (p : Prog) : prodTo p.sets p.sets.length = Vakepa.total p := by
  unfold prodTo Vakepa.total Vakepa.counts
  rw [List.take_length]
theorem prodTo_le {ss : List VSet} (h : ∀ s ∈ ss, 1 ≤ s.values.length ∧ s.values.length ≤ 4) : ∀ i, i ≤ ss.length → 1 ≤ prodTo ss i ∧ prodTo ss i ≤ 4 ^ i
  | 0, _ => ⟨Nat.le_refl _, Nat.le_refl _⟩
  | i + 1, hi => by
    obtain ⟨s, hs⟩ : ∃ s, ss[i]? = some s := ⟨_, List.getElem?_eq_getElem (by omega)⟩
    obtain ⟨h1, h2⟩ := prodTo_le h i (by omega)
    obtain ⟨k1, k2⟩ := h s (List.mem_of_getElem? hs)
    rw [prodTo_succ hs, Nat.pow_succ]
    exact ⟨Nat.mul_pos h1 k1, Nat.mul_le_mul h2 k2⟩
theorem total_le {p : Prog} (W : WF p) : 1 ≤ Vakepa.total p ∧ Vakepa.total p ≤ 64 := by
  obtain ⟨h1, h2⟩ := prodTo_le W.vals p.sets.length (Nat.le_refl _)
  rw [prodTo_all] at h1 h2
  exact ⟨h1, Nat.le_trans h2 (Nat.pow_le_pow_right (by decide) W.s3)⟩
section
variable {P : Program} {w : World} {K : PySem.W.Frag} {mg : Str → Option Value} {base : Heap}
def spCount (c : Cs) : Sp := fun vs H Q _ => ∃ (g : Addr) (a : PA) (p : Prog) (kvs : List (Key × V)) (os : List Addr), vs = [.ref g] ∧ ProgAt c H g a p kvs os ∧ WF p ∧ Q (.int (Vakepa.total p)) H
theorem scCount : FnScope ["program", "count", "words"] ["program"] (defScope s_assignment_count) := ⟨rfl, rfl, rfl, by decide +kernel, rfl, by decide +kernel, by decide +kernel⟩
theorem ok_count {c : Cs} (T : CsT K c) (hl : mg "len" = none) (D : DefAt K mg "assignment_count" s_assignment_count) : Ok P w K mg base CX0 1 "assignment_count" ["program"] (spCount c) := by
  refine Ok.mk' D (fun f fd F => F.ok scCount (fun vs H Q E h => ?_) (fun cdv A outer s H vs Q E hr h => ?_)) (fun _ _ _ _ _ _ us hl => match us, hl with | [_], _ => rfl)
  · obtain ⟨g, a, p, kvs, os, rfl, _⟩ := h
    rfl
  · obtain ⟨g, a, p, kvs, os, rfl, PAt, W, h⟩ := h
    refine ⟨_, pss_cons (ps_set (i := 1) scCount.nd rfl (.inl rfl) pe_int)
      (pss_cons (ps_lock (ps_for PassesOwn.never rfl (pi_values (pe_fld (pv 0) rfl)) (pg_name (i := 2) scCount.nd rfl (.inl rfl))
        (pss_one (ps_set (i := 1) scCount.nd rfl (.inl rfl) (pe_op op_mul (pv 1) (pe_callB call_len_seq (by rfl) hl PySem.boot_len (pa_cons (pv 2) pa_nil)))))))
      (pss_one (ps_ret (pv 1)))), ?_⟩
    obtain ⟨dx, hg⟩ := PAt.obj
    have ngd : g ≠ a.ds := ne_of hg PAt.ds (by intro z; cases z)
    refine ⟨a.ds, _, PAt.ds, trivial, fun od => ?_⟩
    refine ⟨_, rfl, g, c.prog, dx, _, _, rfl, (upd_ne ngd).trans hg, T.prog.cl, T.prog.no _ (by decide), progF_s, ?_⟩
    have hlen := PAt.sets.len
    refine ⟨a.ds, od, kvs, rfl, upd_same, for_it walk_values (fun i σ H' => ∃ v : Option V, σ = [some (.ref g), some (.int (prodTo p.sets i)), v] ∧ H' = upd H a.ds (.frz od (.dK kvs))) ⟨none, rfl, rfl⟩ (fun i σ H' _ ⟨v, _, e⟩ => by rw [e]; exact upd_same) ?_ ?_⟩
    · rintro i x σ H1 H2 hi ⟨v, rfl, rfl⟩ ⟨rfl, k, hk⟩
      obtain ⟨st, hst, e1, b, e2, e3⟩ := PAt.sets.get' hk
      have e2 : x = .ref b := e2
      subst e2
      have nb : b ≠ a.ds := ne_of e3 PAt.ds (by intro z; cases z)
      obtain ⟨b1, b2⟩ := prodTo_le W.vals i (by omega)
      have b3 : prodTo p.sets i ≤ 4 ^ 3 := Nat.le_trans b2 (Nat.pow_le_pow_right (by decide) (by have := W.s3; omega))
      refine ⟨_, rfl, _, rfl, _, _, rfl, .inl (SqL.of ((upd_ne nb).trans e3)), _, _, rfl, rfl, .inl ⟨by omega, by omega⟩, ?_⟩
      refine ⟨some (.ref b), ?_, rfl⟩
      rw [prodTo_succ hst, List.length_map]
      rfl
    · rintro σ H1 ⟨v, rfl, rfl⟩
      refine ⟨upd_same, _, rfl, ?_⟩
      rw [upd_back PAt.ds, hlen, prodTo_all]
      exact h
/-! ### the words that are chosen -/
def chosen : List VSet → List Nat → List (Key × V)
  | s :: ss, i :: v => (kS s.name, sV ((s.values[i]?).getD [])) :: chosen ss v
  | _, _ => []
theorem chosen_len : ∀ {ss : List VSet} {v : List Nat}, ss.length = v.length → (chosen ss v).length = ss.length
  | [], [], _ => rfl
  | [], _ :: _, h => by simp at h
  | _ :: _, [], h => by simp at h
  | s :: ss, i :: v, h => by
    show (chosen ss v).length + 1 = ss.length + 1
    rw [chosen_len (by simpa using h)]
theorem chosen_snoc : ∀ {ss : List VSet} {v : List Nat} {s : VSet} {i : Nat}, ss.length = v.length → chosen (ss ++ [s]) (v ++ [i]) = chosen ss v ++ [(kS s.name, sV ((s.values[i]?).getD []))]
  | [], [], _, _, _ => rfl
  | [], _ :: _, _, _, h => by simp at h
  | _ :: _, [], _, _, h => by simp at h
  | t :: ss, j :: v, s, i, h => by
    show _ :: chosen (ss ++ [s]) (v ++ [i]) = _ :: (chosen ss v ++ _)
    rw [chosen_snoc (by simpa using h)]
theorem chosen_none : ∀ {ss : List VSet} {v : List Nat} {x : By}, (∀ s ∈ ss, s.name ≠ x) → valV (chosen ss v) (kS x) = none
  | [], [], _, _ => rfl
  | [], _ :: _, _, _ => rfl
  | _ :: _, [], _, _ => rfl
  | s :: ss, i :: v, x, h => by
    show valV ((kS s.name, _) :: chosen ss v) (kS x) = none
    rw [valV_neg (fun z => h s (List.mem_cons_self ..) (kS_inj z)), chosen_none (fun t ht => h t (List.mem_cons_of_mem _ ht))]
theorem chosen_some : ∀ {ss : List VSet} {v : List Nat} {k : Nat} {s : VSet}, ss.length = v.length → (ss.map fun s => s.name).Nodup → ss[k]? = some s → valV (chosen ss v) (kS s.name) = some (sV ((s.values[v.getD k 0]?).getD []))
  | [], _, _, _, _, _, h => by simp at h
  | _ :: _, [], _, _, h, _, _ => by simp at h
  | t :: ss, i :: v, 0, s, _, _, h => by
    have e : t = s := Option.some.inj h
    subst e
    show valV ((kS t.name, _) :: chosen ss v) (kS t.name) = _
    rw [valV_pos rfl]
    rfl
  | t :: ss, i :: v, k + 1, s, hl, hn, h => by
    have h' : ss[k]? = some s := h
    have hn : (t.name :: ss.map fun s => s.name).Nodup := hn
    obtain ⟨n1, n2⟩ := List.nodup_cons.mp hn
    show valV ((kS t.name, _) :: chosen ss v) (kS s.name) = _
    rw [valV_neg (fun z => n1 (by rw [kS_inj z]; exact List.mem_map.mpr ⟨s, List.mem_of_getElem? h', rfl⟩)), chosen_some (by simpa using hl) n2 h']
    rfl
def restTo (ss : List VSet) (a : Nat) (i : Nat) : Nat := ((ss.take i).map fun s => s.values.length).foldl (fun x y => x / y) a
theorem restTo_succ {ss : List VSet} {a i : Nat} {s : VSet} (h : ss[i]? = some s) : restTo ss a (i + 1) = restTo ss a i / s.values.length := by
  unfold restTo
  rw [take_snocG h, List.map_append, List.foldl_append]
  rfl
theorem restTo_le {ss : List VSet} {a : Nat} : ∀ i, i ≤ ss.length → restTo ss a i ≤ a
  | 0, _ => Nat.le_refl _
  | i + 1, hi => by
    obtain ⟨s, hs⟩ : ∃ s, ss[i]? = some s := ⟨_, List.getElem?_eq_getElem (by omega)⟩
    rw [restTo_succ hs]
    exact Nat.le_trans (Nat.div_le_self _ _) (restTo_le i (by omega))
theorem valuesBy_len : ∀ (l : List Nat) (a : Nat), (Vakepa.valuesBy l a).length = l.length
  | [], _ => rfl
  | n :: r, a => by
    show (Vakepa.valuesBy r (a / n)).length + 1 = r.length + 1
    rw [valuesBy_len]
theorem valuesBy_snoc : ∀ (l : List Nat) (n a : Nat), Vakepa.valuesBy (l ++ [n]) a = Vakepa.valuesBy l a ++ [l.foldl (fun x y => x / y) a % n]
  | [], n, a => rfl
  | m :: r, n, a => by
    show a % m :: Vakepa.valuesBy (r ++ [n]) (a / m) = a % m :: (Vakepa.valuesBy r (a / m) ++ _)
    rw [valuesBy_snoc]
    rfl
def valsTo (ss : List VSet) (a : Nat) (i : Nat) : List Nat := Vakepa.valuesBy ((ss.take i).map fun s => s.values.length) a
theorem valsTo_len {ss : List VSet} {a i : Nat} (h : i ≤ ss.length) : (valsTo ss a i).length = i := by
  unfold valsTo
  rw [valuesBy_len, List.length_map, List.length_take]
  omega
theorem valsTo_succ {ss : List VSet} {a i : Nat} {s : VSet} (h : ss[i]? = some s) : valsTo ss a (i + 1) = valsTo ss a i ++ [restTo ss a i % s.values.length] := by
  unfold valsTo restTo
  rw [take_snocG h, List.map_append]
  exact valuesBy_snoc _ _ _
theorem valsTo_all (p : Prog) (a : Nat) : valsTo p.sets a p.sets.length = Vakepa.valuesOf p a := by
  unfold valsTo Vakepa.valuesOf Vakepa.counts
  rw [List.take_length]
theorem fmod_nat (a b : Nat) : Int.fmod (a : Int) (b : Int) = ((a % b : Nat) : Int) := by
  rw [Int.fmod_eq_emod_of_nonneg _ (by omega)]
  rfl
theorem fdiv_nat (a b : Nat) : Int.fdiv (a : Int) (b : Int) = ((a / b : Nat) : Int) := by
  rw [Int.fdiv_eq_ediv_of_nonneg _ (by omega)]
  rfl
theorem scWords : FnScope ["program", "assignment", "chosen", "rest", "name", "words"] ["program", "assignment"] (defScope s_words_chosen) := ⟨rfl, rfl, rfl, by decide +kernel, rfl, by decide +kernel, by decide +kernel⟩
def spWords (c : Cs) : Sp := fun vs H Q _ => ∃ (g : Addr) (a : PA) (p : Prog) (kvs : List (Key × V)) (os : List Addr) (n : Nat), vs = [.ref g, .int n] ∧ ProgAt c H g a p kvs os ∧ WF p ∧ n ≤ 100 ∧
  ∀ (H' : Hp) (d : Addr), Same H H' → H d = none → H' d = some (.dK (chosen p.sets (Vakepa.valuesOf p n))) → Q (.ref d) H'
theorem ok_words {c : Cs} (T : CsT K c) (hl : mg "len" = none) (D : DefAt K mg "words_chosen" s_words_chosen) : Ok P w K mg base CX0 1 "words_chosen" ["program", "assignment"] (spWords c) := by
  refine Ok.mk' D (fun f fd F => F.ok scWords (fun vs H Q E h => ?_) (fun cdv A outer s H vs Q E hr h => ?_)) (fun _ _ _ _ _ _ us hl => match us, hl with | [_, _], _ => rfl)
  · obtain ⟨g, a, p, kvs, os, n, rfl, _⟩ := h
    rfl
  · obtain ⟨g, a, p, kvs, os, n, rfl, PAt, W, hn, h⟩ := h
    have hu := hu_of hr
    refine ⟨_, pss_cons (ps_set (i := 2) scWords.nd rfl (.inl rfl) pe_dnewK)
      (pss_cons (ps_set (i := 3) scWords.nd rfl (.inl rfl) (pv 1))
      (pss_cons (ps_lock (ps_for PassesOwn.never rfl (pi_items (pe_fld (pv 0) rfl)) (pg_tup rfl (pgs_cons (pg_name (i := 4) scWords.nd rfl (.inl rfl)) (pgs_cons (pg_name (i := 5) scWords.nd rfl (.inl rfl)) pgs_nil)))
        (pss_cons (ps_dput hu (pv 2) (pv 4) (pe_ix ix_list (pv 5) (pe_op op_modN (pv 3) (pe_callB call_len_seq (by rfl) hl PySem.boot_len (pa_cons (pv 5) pa_nil))) (fun _ _ => rfl)) rfl)
        (pss_one (ps_set (i := 3) scWords.nd rfl (.inl rfl) (pe_op op_fdivN (pv 3) (pe_callB call_len_seq (by rfl) hl PySem.boot_len (pa_cons (pv 5) pa_nil))))))))
      (pss_one (ps_ret (pv 2))))), ?_⟩
    obtain ⟨dx, hg⟩ := PAt.obj
    have ngd : g ≠ a.ds := ne_of hg PAt.ds (by intro z; cases z)
    have hlen := PAt.sets.len
    have hss := W.s3
    have hsz : sizeLine = 16777216 := sizeLine_eq
    intro d hd
    have nd : a.ds ≠ d := ne_of_none PAt.ds hd
    refine ⟨_, rfl, a.ds, _, (upd_ne nd).trans PAt.ds, trivial, fun od => ?_⟩
    refine ⟨_, rfl, g, c.prog, dx, _, _, rfl, (upd_ne ngd).trans ((upd_ne (ne_of_none hg hd)).trans hg), T.prog.cl, T.prog.no _ (by decide), progF_s, ?_⟩
    refine ⟨a.ds, od, kvs, rfl, upd_same, for_it walk_items (fun i σ H' => ∃ v4 v5 : Option V, σ = [some (.ref g), some (.int n), some (.ref d), some (.int (restTo p.sets n i)), v4, v5] ∧ (∀ b o, H b = some o → b ≠ a.ds → H' b = some o) ∧
        H' a.ds = some (.frz od (.dK kvs)) ∧ H' d = some (.dK (chosen (p.sets.take i) (valsTo p.sets n i))))
      ⟨none, none, rfl, fun b o e nb => by rw [upd_ne nb, upd_ne (ne_of_none e hd)]; exact e, upd_same, ?_⟩ (fun i σ H' _ ⟨_, _, _, _, q, _⟩ => q) ?_ ?_⟩
    · rw [upd_ne (Ne.symm nd), upd_same]
      rfl
    · rintro i x σ H1 H2 hi ⟨v4, v5, rfl, k1, k2, k3⟩ ⟨t, y, z, rfl, ht, rfl, hy, hz⟩
      obtain ⟨kv, hkv⟩ : ∃ kv, kvs[i]? = some kv := ⟨_, List.getElem?_eq_getElem hi⟩
      obtain ⟨st, hst, e1, b, e2, e3⟩ := PAt.sets.get' hkv
      dsimp only at hy hz
      rw [hkv] at hy hz
      have hy : kV kv.1 = y := Option.some.inj hy
      have hz : kv.2 = z := Option.some.inj hz
      subst hy hz
      have nb : b ≠ a.ds := ne_of e3 PAt.ds (by intro z; cases z)
      have hb1 : H1 b = some (.lst (st.values.map sV)) := k1 _ _ e3 nb
      have nbt : b ≠ t := ne_of_none hb1 ht
      have ndt : d ≠ t := ne_of_none k3 ht
      have nst : a.ds ≠ t := ne_of_none k2 ht
      obtain ⟨w1, w2⟩ := W.vals st (List.mem_of_getElem? hst)
      have hr1 := restTo_le (ss := p.sets) (a := n) i (by omega)
      have hm : restTo p.sets n i % st.values.length < st.values.length := Nat.mod_lt _ w1
      refine ⟨t, _, rfl, SqT.of upd_same, rfl, _, _, rfl, _, _, rfl, rfl, ?_⟩
      rw [e2]
      have hlv : ((List.map sV st.values).length : Int) = (st.values.length : Int) := by rw [List.length_map]
      refine ⟨_, rfl, _, rfl, _, rfl, _, _, rfl, .inl (SqL.of ((upd_ne nbt).trans hb1)), _, _, rfl, rfl, by rw [hlv]; omega, b, _, _, _, rfl, rfl, SqL.of ((upd_ne nbt).trans hb1), (by rw [hlv, fmod_nat]; exact atI_nat (v := sV ((st.values[restTo p.sets n i % st.values.length]?).getD [])) (by rw [List.getElem?_map, List.getElem?_eq_getElem hm]; rfl)), ?_⟩
      have hkey : kv.1 = kS st.name := e1
      have hnew : valV (chosen (p.sets.take i) (valsTo p.sets n i)) (kS st.name) = none := by
        refine chosen_none (fun s hs z => ?_)
        obtain ⟨j, hj⟩ := List.getElem?_of_mem hs
        have hj2 : j < i := by
          have := (List.getElem?_eq_some_iff.mp hj).1
          rw [List.length_take] at this
          omega
        rw [List.getElem?_take_of_lt hj2] at hj
        have q1 : (p.sets.map fun s => s.name)[j]? = some s.name := by rw [List.getElem?_map, hj]; rfl
        have q2 : (p.sets.map fun s => s.name)[i]? = some s.name := by rw [List.getElem?_map, hst, z]; rfl
        have := nd_ix W.snd q1 q2
        omega
      have hvl := valsTo_len (ss := p.sets) (a := n) (i := i) (by omega)
      have htl : (p.sets.take i).length = i := by rw [List.length_take]; omega
      refine ⟨_, rfl, _, rfl, d, _, rfl, DPut.k (k := kv.1) ((upd_ne ndt).trans k3) (by rw [chosen_len (by rw [htl, hvl]), htl]; omega), ?_⟩
      refine ⟨_, rfl, _, rfl, _, _, rfl, .inl (SqL.of (by rw [upd_ne (ne_of hb1 k3 (by intro z; cases z)), upd_ne nbt]; exact hb1)), _, _, rfl, rfl, ⟨by rw [hlv]; omega, by rw [hlv]; omega⟩, ?_⟩
      refine ⟨some (kV kv.1), some (.ref b), ?_, fun q o e nq => ?_, ?_, ?_⟩
      · rw [restTo_succ hst, hlv, ← fdiv_nat]
        rfl
      · rw [upd_ne (ne_of_none e hd), upd_ne (ne_of_none (k1 _ _ e nq) ht)]
        exact k1 _ _ e nq
      · rw [upd_ne nd, upd_ne nst]
        exact k2
      · rw [upd_same, hkey, putK_new _ hnew, take_snocG hst, valsTo_succ hst, chosen_snoc (by rw [htl, hvl])]
    · rintro σ H1 ⟨v4, v5, rfl, k1, k2, k3⟩
      refine ⟨k2, _, rfl, ?_⟩
      rw [hlen, List.take_length, valsTo_all] at k3
      refine h _ d (fun b o e => ?_) hd ?_
      · by_cases q : b = a.ds
        · rw [q, PAt.ds] at e
          cases e
          rw [q, upd_same]
        · rw [upd_ne q]
          exact k1 _ _ e q
      · rw [upd_ne (Ne.symm nd)]
        exact k3
end
end Pk
end
section
set_option Elab.async false
set_option linter.all false
set_option maxRecDepth 100000
set_option maxHeartbeats 4000000
namespace Pk
open PySem PySem.Spec PyProof.Rows L2
open Vakepa (Piece Part Prog Raw RawPart)
theorem joinL_flat : ∀ l : List (List Nat), TL.joinL [] l = l.flatten
  | [] => rfl
  | [p] => by simp [TL.joinL]
  | p :: q :: r => by
    show p ++ ([] ++ TL.joinL [] (q :: r)) = _
    rw [joinL_flat (q :: r)]
    rfl
theorem join_toStr (l : List By) : Txt.join (Str.ofString "") (l.map toStr) = toStr l.flatten := by
  have e : TL.tl (Txt.join (Str.ofString "") (l.map toStr)) = TL.tl (toStr l.flatten) := by
    rw [TL.join_eq, TL.tl_join]
    have e1 : TL.tl (Str.ofString "") = [] := by decide +kernel
    have e2 : (l.map toStr).map TL.tl = l.map fun b => b.map (·.toNat) := by
      rw [List.map_map]
      rfl
    rw [e1, e2, joinL_flat]
    show (l.map fun b => b.map (·.toNat)).flatten = (l.flatten).map (·.toNat)
    rw [List.map_flatten]
  exact TL.ext_tl e
theorem toStr_len (b : By) : (toStr b).length = b.length := by
  unfold toStr Str.length
  simp
section
variable {P : Program} {w : World} {K : PySem.W.Frag} {mg : Str → Option Value} {base : Heap}
def spMade : Sp := fun vs H Q _ => ∃ (q d : Addr) (ps : List Piece) (nm f : Piece → By) (kvs : List (Key × V)), vs = [.ref q, .ref d] ∧ H q = some (.lst (ps.map fun z => sV (nm z))) ∧ H d = some (.dK kvs) ∧
  (∀ z ∈ ps, (valV kvs (kS (nm z))).getD (sV (nm z)) = sV (f z) ∧ (f z).length ≤ 1000) ∧ ps.length ≤ 1000 ∧ ∀ H', Same H H' → Q (.str (toStr (ps.flatMap f))) H'
theorem scMade : FnScope ["pieces", "chosen", "piece"] ["pieces", "chosen"] (defScope s_made_name) := ⟨rfl, rfl, rfl, by decide +kernel, rfl, by decide +kernel, by decide +kernel⟩
theorem ok_made (D : DefAt K mg "made_name" s_made_name) : Ok P w K mg base CX0 1 "made_name" ["pieces", "chosen"] spMade := by
  refine Ok.mk' D (fun f fd F => F.ok scMade (fun vs H Q E h => ?_) (fun cdv A outer s H vs Q E hr h => ?_)) (fun _ _ _ _ _ _ us hl => match us, hl with | [_, _], _ => rfl)
  · obtain ⟨q, d, ps, nm, f, kvs, rfl, _⟩ := h
    rfl
  · obtain ⟨q, d, ps, nm, f, kvs, rfl, hq, hd, hp, hn, h⟩ := h
    have hu := hu_of hr
    refine ⟨_, pss_one (ps_ret (pe_join pe_str (pe_lc (own := [("piece", 2)]) (g := gName 2) (tt := tYes) rfl scMade.nd (pi_list (pv 0)) (blkOk_by (N := ["pieces", "chosen", "piece"]) (sc := defScope s_made_name) (by decide +kernel))
          (fun _ _ _ _ _ => pg_name (i := 2) scMade.nd rfl (Or.inl rfl)) (fun _ _ _ _ _ => pts_nil) (fun _ _ _ _ _ => pe_dget2 hu (pv 1) (pv 2) (pv 2) ⟨rfl, rfl, rfl, rfl⟩)))), ?_⟩
    have hsz : sizeLine = 16777216 := sizeLine_eq
    refine ⟨⟨_, rfl⟩, _, rfl, q, rfl, ⟨_, SqL.of hq⟩, fun D hD => ?_⟩
    have nqD : q ≠ D := ne_of_none hq hD
    refine lc_list (K := K) (a := q) (xs := ps.map fun z => sV (nm z)) (fun k H2 => Same H H2 ∧ H2 D = some (.lst ((ps.take k).map fun z => sV (f z))))
      ⟨Same.new hD, upd_same⟩ (fun k H2 _ z => SqL.of (z.1 _ _ hq)) ?_ ?_
    · rintro k y H2 hy ⟨s3, hD2⟩
      obtain ⟨e, he, rfl⟩ : ∃ e, ps[k]? = some e ∧ y = sV (nm e) := by
        rw [List.getElem?_map] at hy
        cases z : ps[k]? with
        | none =>
          rw [z] at hy
          cases hy
        | some e =>
          rw [z] at hy
          exact ⟨e, rfl, (Option.some.inj hy).symm⟩
      have hk := (List.getElem?_eq_some_iff.mp he).1
      obtain ⟨w1, w2⟩ := hp e (List.mem_of_getElem? he)
      refine ⟨rfl, ?_⟩
      dsimp only [tYes]
      rw [if_pos rfl]
      refine ⟨_, rfl, d, rfl, .inl ⟨_, .inl (s3 _ _ hd)⟩, _, rfl, _, rfl, _, DGet.k (k := kS (nm e)) (s3 _ _ hd), _, hD2, ?_, fun b o z => ?_, ?_⟩
      · rw [List.length_map, List.length_take]
        omega
      · rw [upd_ne (ne_of_none z hD)]
        exact s3 b o z
      · rw [upd_same, w1, take_snocG he, List.map_append]
        rfl
    · rintro H2 ⟨s3, hD2⟩
      rw [List.length_map, List.take_length] at hD2
      have hD3 : H2 D = some (.lst (((ps.map f).map toStr).map V.str)) := by
        rw [List.map_map, List.map_map]
        exact hD2
      have sum1 : ∀ l : List Piece, (∀ z ∈ l, (f z).length ≤ 1000) → (((l.map f).map toStr).map (·.length)).sum ≤ l.length * 1000 := fun l hl => by
        induction l with
        | nil => exact Nat.le_refl _
        | cons x r ih =>
          rw [List.map_cons, List.map_cons, List.map_cons, List.sum_cons, List.length_cons, toStr_len]
          have h1 := hl x (List.mem_cons_self ..)
          have h2 := ih (fun z hz => hl z (List.mem_cons_of_mem _ hz))
          omega
      refine ⟨_, _, (ps.map f).map toStr, rfl, rfl, .inl (SqL.of hD3), ?_, ?_⟩
      · have : (Str.ofString "").length = 0 := by decide +kernel
        rw [this]
        have := sum1 ps (fun z hz => (hp z hz).2)
        omega
      rw [join_toStr]
      exact h H2 s3
end
end Pk
end
section

/-! The mathematics of runs: the recursion on bodies is the walk by steps. -/
namespace Pk
open Vakepa (Prog Run step1 goBy over mark bodyOf partNamed madeName)
structure RSt where
  entered : List Nat
  n : Nat
def thenDo (x : RSt × Nat) (f : RSt → RSt × Nat) : RSt × Nat := if x.2 = 0 then f x.1 else x
def doAll (p : Prog) (v : List Nat) (ent : Nat → RSt → RSt × Nat) : Vakepa.Stmt → RSt → RSt × Nat
  | .done, s => (s, 0)
  | .say _ r, s => if 100 ≤ s.n then (s, 2) else doAll p v ent r ⟨s.entered, s.n + 1⟩
  | .call k r, s => if 100 ≤ s.n then (s, 2) else thenDo (ent k ⟨s.entered, s.n + 1⟩) (doAll p v ent r)
  | .make ps r, s => if 100 ≤ s.n then (s, 2) else thenDo (match partNamed p (madeName p v ps) with
    | none => (⟨s.entered, s.n + 1⟩, 0)
    | some k => ent k ⟨s.entered, s.n + 1⟩) (doAll p v ent r)
  | .when_ x w b r, s => if 100 ≤ s.n then (s, 2) else thenDo (if v.getD x 0 = w then doAll p v ent b ⟨s.entered, s.n + 1⟩ else (⟨s.entered, s.n + 1⟩, 0)) (doAll p v ent r)
def enterR (p : Prog) (v : List Nat) : Nat → Nat → RSt → RSt × Nat
  | 0, k, s => (⟨mark k s.entered, s.n⟩, 1)
  | m + 1, k, s => doAll p v (enterR p v m) (bodyOf p k) ⟨mark k s.entered, s.n⟩
section
variable {p : Prog} {v : List Nat}
theorem go_step {r : Run} {f : Nat} (h : over r = false) : goBy p [] v (f + 1) r = goBy p [] v f (step1 p [] v r) := by
  rw [goBy, if_neg (by rw [h]; decide)]
theorem go_over {r : Run} (h : over r = true) : ∀ f, goBy p [] v f r = r
  | 0 => rfl
  | f + 1 => by rw [goBy, if_pos h]
/-- from the state a, with i steps at most, to what x says over the rest t -/
def Sim (p : Prog) (v : List Nat) (a : Run) (n0 : Nat) (t : List (Vakepa.Stmt × Nat)) (x : RSt × Nat) (extra : Nat) : Prop :=
  ∃ (j : Nat) (said : List Nat), n0 ≤ x.1.n ∧ (n0 ≤ 100 → x.1.n ≤ 100) ∧
    (x.2 = 0 → j ≤ 2 * (x.1.n - n0) + extra ∧ ∀ f, goBy p [] v (j + f) a = goBy p [] v f ⟨t, said, x.1.entered, x.1.n, 0⟩) ∧
    (x.2 ≠ 0 → j ≤ 2 * (x.1.n - n0) + extra + 1 ∧ ∃ todo, ∀ f, goBy p [] v (j + f) a = ⟨todo, said, x.1.entered, x.1.n, x.2⟩)
/-- one step ahead, that counts -/
theorem Sim.step {a a' : Run} {n0 : Nat} {t : List (Vakepa.Stmt × Nat)} {x : RSt × Nat} (h : over a = false) (e : step1 p [] v a = a') (hn : n0 < 100) (s : Sim p v a' (n0 + 1) t x 2) : Sim p v a n0 t x 1 := by
  obtain ⟨j, said, h1, h2, h3, h4⟩ := s
  refine ⟨j + 1, said, by omega, fun _ => h2 (by omega), fun q => ?_, fun q => ?_⟩
  · obtain ⟨k1, k2⟩ := h3 q
    refine ⟨by omega, fun f => ?_⟩
    rw [show j + 1 + f = (j + f) + 1 by omega, go_step h, e]
    exact k2 f
  · obtain ⟨k1, todo, k2⟩ := h4 q
    refine ⟨by omega, todo, fun f => ?_⟩
    rw [show j + 1 + f = (j + f) + 1 by omega, go_step h, e]
    exact k2 f
theorem Sim.more {a : Run} {n0 : Nat} {t : List (Vakepa.Stmt × Nat)} {x : RSt × Nat} {i k : Nat} (s : Sim p v a n0 t x i) (h : i ≤ k) : Sim p v a n0 t x k := by
  obtain ⟨j, said, h1, h2, h3, h4⟩ := s
  exact ⟨j, said, h1, h2, fun q => ⟨by have := (h3 q).1; omega, (h3 q).2⟩, fun q => ⟨by have := (h4 q).1; omega, (h4 q).2⟩⟩
/-- a part, then the rest of the chain -/
theorem Sim.seq {a : Run} {n0 : Nat} {t u : List (Vakepa.Stmt × Nat)} {x : RSt × Nat} {g : RSt → RSt × Nat} (s : Sim p v a n0 t x 1) (h : ∀ said, Sim p v ⟨t, said, x.1.entered, x.1.n, 0⟩ x.1.n u (g x.1) 1) : Sim p v a n0 u (thenDo x g) 2 := by
  obtain ⟨j, said, h1, h2, h3, h4⟩ := s
  unfold thenDo
  by_cases q : x.2 = 0
  · rw [if_pos q]
    obtain ⟨k1, k2⟩ := h3 q
    obtain ⟨j', said', m1, m2, m3, m4⟩ := h said
    refine ⟨j + j', said', by omega, fun z => m2 (h2 z), fun r => ?_, fun r => ?_⟩
    · obtain ⟨l1, l2⟩ := m3 r
      refine ⟨by omega, fun f => ?_⟩
      rw [Nat.add_assoc, k2]
      exact l2 f
    · obtain ⟨l1, todo, l2⟩ := m4 r
      refine ⟨by omega, todo, fun f => ?_⟩
      rw [Nat.add_assoc, k2]
      exact l2 f
  · rw [if_neg q]
    obtain ⟨k1, todo, k2⟩ := h4 q
    exact ⟨j, said, h1, h2, fun r => absurd r q, fun _ => ⟨by omega, todo, k2⟩⟩
theorem over_no {st : Vakepa.Stmt} {d n : Nat} {t : List (Vakepa.Stmt × Nat)} {said en : List Nat} : over ⟨(st, d) :: t, said, en, n, 0⟩ = false := rfl
/-- what an entered part does, at a depth -/
def EntSim (p : Prog) (v : List Nat) (m d : Nat) : Prop := ∀ (k : Nat) (s : RSt) (t : List (Vakepa.Stmt × Nat)) (said : List Nat), Sim p v (Vakepa.enter p k d ⟨t, said, s.entered, s.n, 0⟩) s.n t (enterR p v m k s) 1
theorem long_sim {st : Vakepa.Stmt} {d : Nat} {t : List (Vakepa.Stmt × Nat)} {said : List Nat} {s : RSt} (hst : st ≠ .done) (h : 100 ≤ s.n) : Sim p v ⟨(st, d) :: t, said, s.entered, s.n, 0⟩ s.n t (s, 2) 1 := by
  refine ⟨1, said, Nat.le_refl _, fun z => z, fun q => absurd q (by show ¬ (2 = 0); decide), fun _ => ⟨by omega, (st, d) :: t, fun f => ?_⟩⟩
  have e : step1 p [] v ⟨(st, d) :: t, said, s.entered, s.n, 0⟩ = ⟨(st, d) :: t, said, s.entered, s.n, 2⟩ := by
    cases st with
    | done => exact absurd rfl hst
    | say k r => show (if 100 ≤ s.n then _ else _) = _; rw [if_pos h]
    | call k r => show (if 100 ≤ s.n then _ else _) = _; rw [if_pos h]
    | make k r => show (if 100 ≤ s.n then _ else _) = _; rw [if_pos h]
    | when_ x w b r => show (if 100 ≤ s.n then _ else _) = _; rw [if_pos h]
  rw [show 1 + f = f + 1 by omega, go_step over_no, e]
  exact go_over rfl f
theorem do_sim {m d : Nat} (E : EntSim p v m d) : ∀ (st : Vakepa.Stmt) (s : RSt) (t : List (Vakepa.Stmt × Nat)) (said : List Nat), Sim p v ⟨(st, d) :: t, said, s.entered, s.n, 0⟩ s.n t (doAll p v (enterR p v m) st s) 1
  | .done, s, t, said => by
    refine ⟨1, said, Nat.le_refl _, fun z => z, fun _ => ⟨by show 1 ≤ 2 * (s.n - s.n) + 1; omega, fun f => ?_⟩, fun q => absurd rfl q⟩
    rw [show 1 + f = f + 1 by omega, go_step over_no]
    rfl
  | .say k r, s, t, said => by
    by_cases h : 100 ≤ s.n
    · rw [doAll, if_pos h]
      exact long_sim (fun z => nomatch z) h
    · rw [doAll, if_neg h]
      refine Sim.step over_no (a' := ⟨(r, d) :: t, said ++ [k], s.entered, s.n + 1, 0⟩) ?_ (by omega) ((do_sim E r ⟨s.entered, s.n + 1⟩ t _).more (by decide))
      show (if 100 ≤ s.n then _ else _) = _
      rw [if_neg h]
  | .call k r, s, t, said => by
    by_cases h : 100 ≤ s.n
    · rw [doAll, if_pos h]
      exact long_sim (fun z => nomatch z) h
    · rw [doAll, if_neg h]
      refine Sim.step over_no (a' := Vakepa.enter p k d ⟨(r, d) :: t, said, s.entered, s.n + 1, 0⟩) ?_ (by omega) (Sim.seq (E k ⟨s.entered, s.n + 1⟩ ((r, d) :: t) said) fun sd => do_sim E r _ t sd)
      show (if 100 ≤ s.n then _ else _) = _
      rw [if_neg h]
      rfl
  | .make ps r, s, t, said => by
    by_cases h : 100 ≤ s.n
    · rw [doAll, if_pos h]
      exact long_sim (fun z => nomatch z) h
    · rw [doAll, if_neg h]
      cases e : partNamed p (madeName p v ps) with
      | none =>
        refine Sim.step over_no (a' := ⟨(r, d) :: t, said, s.entered, s.n + 1, 0⟩) ?_ (by omega) ?_
        · show (if 100 ≤ s.n then _ else match partNamed p (madeName p v ps) with | none => _ | some k => _) = _
          rw [if_neg h, e]
        · unfold thenDo
          rw [if_pos rfl]
          exact (do_sim E r ⟨s.entered, s.n + 1⟩ t said).more (by decide)
      | some k =>
        refine Sim.step over_no (a' := Vakepa.enter p k d ⟨(r, d) :: t, said, s.entered, s.n + 1, 0⟩) ?_ (by omega) (Sim.seq (E k ⟨s.entered, s.n + 1⟩ ((r, d) :: t) said) fun sd => do_sim E r _ t sd)
        show (if 100 ≤ s.n then _ else match partNamed p (madeName p v ps) with | none => _ | some k => _) = _
        rw [if_neg h, e]
        rfl
  | .when_ x w b r, s, t, said => by
    by_cases h : 100 ≤ s.n
    · rw [doAll, if_pos h]
      exact long_sim (fun z => nomatch z) h
    · rw [doAll, if_neg h]
      by_cases e : v.getD x 0 = w
      · rw [if_pos e]
        refine Sim.step over_no (a' := ⟨(b, d) :: (r, d) :: t, said, s.entered, s.n + 1, 0⟩) ?_ (by omega) (Sim.seq (do_sim E b ⟨s.entered, s.n + 1⟩ ((r, d) :: t) said) fun sd => do_sim E r _ t sd)
        show (if 100 ≤ s.n then _ else _) = _
        rw [if_neg h]
        show Run.mk (if v.getD x 0 = w then _ else _) _ _ _ _ = _
        rw [if_pos e]
      · rw [if_neg e]
        refine Sim.step over_no (a' := ⟨(r, d) :: t, said, s.entered, s.n + 1, 0⟩) ?_ (by omega) ?_
        · show (if 100 ≤ s.n then _ else _) = _
          rw [if_neg h]
          show Run.mk (if v.getD x 0 = w then _ else _) _ _ _ _ = _
          rw [if_neg e]
        · unfold thenDo
          rw [if_pos rfl]
          exact (do_sim E r ⟨s.entered, s.n + 1⟩ t said).more (by decide)
theorem ent_sim : ∀ (m d : Nat), d + m = 8 → EntSim p v m d
  | 0, d, h => fun k s t said => by
    have e : Vakepa.enter p k d ⟨t, said, s.entered, s.n, 0⟩ = ⟨t, said, mark k s.entered, s.n, 1⟩ := by
      unfold Vakepa.enter
      rw [if_pos (show Vakepa.CALLS ≤ d by show 8 ≤ d; omega)]
    rw [e]
    exact ⟨0, said, Nat.le_refl _, fun z => z, fun q => absurd q (by show ¬ (1 = 0); decide), fun _ => ⟨by omega, t, fun f => go_over rfl _⟩⟩
  | m + 1, d, h => fun k s t said => by
    have e : Vakepa.enter p k d ⟨t, said, s.entered, s.n, 0⟩ = ⟨(bodyOf p k, d + 1) :: t, said, mark k s.entered, s.n, 0⟩ := by
      unfold Vakepa.enter
      rw [if_neg (show ¬ Vakepa.CALLS ≤ d by show ¬ 8 ≤ d; omega)]
    rw [e]
    exact do_sim (ent_sim m (d + 1) (by omega)) (bodyOf p k) ⟨mark k s.entered, s.n⟩ t said
/-- a whole run -/
theorem run_is (e : Nat) : (Vakepa.run p [] e v).entered = (enterR p v 9 e ⟨[], 0⟩).1.entered ∧ (Vakepa.run p [] e v).fin = (enterR p v 9 e ⟨[], 0⟩).2 := by
  have s := do_sim (ent_sim (p := p) (v := v) 8 0 rfl) (bodyOf p e) ⟨[e], 0⟩ [] []
  have e0 : enterR p v 9 e ⟨[], 0⟩ = doAll p v (enterR p v 8) (bodyOf p e) ⟨[e], 0⟩ := rfl
  rw [e0]
  have er : Vakepa.run p [] e v = goBy p [] v 400 ⟨[(bodyOf p e, 0)], [], [e], 0, 0⟩ := rfl
  rw [er]
  generalize doAll p v (enterR p v 8) (bodyOf p e) ⟨[e], 0⟩ = x at s
  obtain ⟨j, said, h1, h2, h3, h4⟩ := s
  have hn := h2 (by show 0 ≤ 100; decide)
  by_cases q : x.2 = 0
  · obtain ⟨k1, k2⟩ := h3 q
    have kk : j ≤ 400 := by
      have : j ≤ 2 * (x.1.n - 0) + 1 := k1
      omega
    have z := (k2 (400 - j)).trans (go_over rfl _)
    rw [show j + (400 - j) = 400 by omega] at z
    rw [z]
    exact ⟨rfl, q.symm⟩
  · obtain ⟨k1, todo, k2⟩ := h4 q
    have kk : j ≤ 400 := by
      have : j ≤ 2 * (x.1.n - 0) + 1 + 1 := k1
      omega
    have z := k2 (400 - j)
    rw [show j + (400 - j) = 400 by omega] at z
    rw [z]
    exact ⟨rfl, rfl⟩
/-- no more than 100 statements -/
theorem mark_in {k : Nat} {l : List Nat} : k ∈ mark k l := by
  unfold mark
  split
  · rename_i h
    exact List.contains_iff_mem.mp h
  · exact List.mem_append_right _ (List.mem_singleton.mpr rfl)
end
end Pk
end
section
set_option Elab.async false
set_option linter.all false
set_option maxRecDepth 100000
set_option maxHeartbeats 4000000
namespace Pk
open PySem PySem.Spec PyProof.Rows L2
open Vakepa (Piece Part Prog Raw RawPart)
/-! ### statements one by one -/
def tailS : VStmt → VStmt
  | .done => .done
  | .say _ r => r
  | .call _ r => r
  | .make _ r => r
  | .when_ _ _ _ r => r
def dropS : Nat → VStmt → VStmt
  | 0, s => s
  | n + 1, s => dropS n (tailS s)
theorem dropS_succ : ∀ (n : Nat) (s : VStmt), dropS (n + 1) s = tailS (dropS n s)
  | 0, _ => rfl
  | n + 1, s => dropS_succ n (tailS s)
/-- the first statement's object -/
def HeadAt (c : Cs) (ss : List VSet) (ns : List By) (H : Hp) (o : Addr) : VStmt → Prop
  | .done => False
  | .say k _ => ObjAt c.say H o (sayF k)
  | .call k _ => ∃ n : By, ns.findIdx? (fun y => y == n) = some k ∧ ObjAt c.call H o (callF (toStr n))
  | .make ps _ => ∃ q : Addr, ObjAt c.make H o (makeF q) ∧ H q = some (.lst (ps.map fun z => sV (pieceName ss z)))
  | .when_ x v b _ => ∃ (q : Addr) (zs : List V), ObjAt c.when_ H o (whenF (toStr (setName ss x)) (toStr (setWord ss x v)) q) ∧ H q = some (.lst zs) ∧ BodyL c ss ns H b zs
theorem body_cons {c : Cs} {ss : List VSet} {ns : List By} {H : Hp} {st : VStmt} {x : V} {xs : List V} (h : BodyL c ss ns H st (x :: xs)) : ∃ o : Addr, x = .ref o ∧ HeadAt c ss ns H o st ∧ BodyL c ss ns H (tailS st) xs := by
  cases st with
  | done => exact nomatch (show x :: xs = [] from h)
  | say k r =>
    obtain ⟨o, ys, e, h1, h2⟩ := h
    cases e
    exact ⟨o, rfl, h1, h2⟩
  | call k r =>
    obtain ⟨o, ys, n, e, h0, h1, h2⟩ := h
    cases e
    exact ⟨o, rfl, ⟨n, h0, h1⟩, h2⟩
  | make ps r =>
    obtain ⟨o, q, ys, e, h0, h1, h2⟩ := h
    cases e
    exact ⟨o, rfl, ⟨q, h0, h1⟩, h2⟩
  | when_ x v b r =>
    obtain ⟨o, q, zs, ys, e, h0, h1, h2, h3⟩ := h
    cases e
    exact ⟨o, rfl, ⟨q, zs, h0, h1, h2⟩, h3⟩
theorem body_nil {c : Cs} {ss : List VSet} {ns : List By} {H : Hp} {st : VStmt} (h : BodyL c ss ns H st []) : st = .done := by
  cases st with
  | done => rfl
  | say k r => obtain ⟨o, ys, e, _⟩ := h; cases e
  | call k r => obtain ⟨o, ys, n, e, _⟩ := h; cases e
  | make ps r => obtain ⟨o, q, ys, e, _⟩ := h; cases e
  | when_ x v b r => obtain ⟨o, q, zs, ys, e, _⟩ := h; cases e
theorem body_at {c : Cs} {ss : List VSet} {ns : List By} {H : Hp} : ∀ {i : Nat} {st : VStmt} {xs : List V} {x : V}, BodyL c ss ns H st xs → xs[i]? = some x → ∃ o : Addr, x = .ref o ∧ HeadAt c ss ns H o (dropS i st)
  | 0, st, y :: xs, x, h, hx => by
    have e : y = x := Option.some.inj hx
    subst e
    obtain ⟨o, e, h1, _⟩ := body_cons h
    exact ⟨o, e, h1⟩
  | i + 1, st, y :: xs, x, h, hx => by
    obtain ⟨o, e, _, h2⟩ := body_cons h
    exact body_at (i := i) h2 hx
  | _, _, [], _, _, hx => by simp at hx
theorem body_end {c : Cs} {ss : List VSet} {ns : List By} {H : Hp} : ∀ {st : VStmt} {xs : List V}, BodyL c ss ns H st xs → dropS xs.length st = .done
  | st, [], h => body_nil h
  | st, y :: xs, h => by
    obtain ⟨o, e, _, h2⟩ := body_cons h
    show dropS xs.length (tailS st) = .done
    exact body_end h2
/-- the first statement alone -/
def doOne (p : Prog) (v : List Nat) (ent : Nat → RSt → RSt × Nat) : VStmt → RSt → RSt × Nat
  | .done, s => (s, 0)
  | .say _ _, s => (s, 0)
  | .call k _, s => ent k s
  | .make ps _, s => match Vakepa.partNamed p (Vakepa.madeName p v ps) with
    | none => (s, 0)
    | some k => ent k s
  | .when_ x w b _, s => if v.getD x 0 = w then doAll p v ent b s else (s, 0)
theorem doAll_one {p : Prog} {v : List Nat} {ent : Nat → RSt → RSt × Nat} {st : VStmt} {s : RSt} (h : st ≠ .done) : doAll p v ent st s = if 100 ≤ s.n then (s, 2) else thenDo (doOne p v ent st ⟨s.entered, s.n + 1⟩) (doAll p v ent (tailS st)) := by
  cases st with
  | done => exact absurd rfl h
  | say k r => rfl
  | call k r => rfl
  | make ps r => rfl
  | when_ x w b r => rfl
theorem tail_ok {ss : List VSet} {st : VStmt} (h : BodyOk ss st) : BodyOk ss (tailS st) := by
  cases st with
  | done => exact h
  | say k r => exact h.2
  | call k r => exact h
  | make ps r => exact h.2.2
  | when_ x w b r => exact h.2.2
theorem drop_ok {ss : List VSet} : ∀ {i : Nat} {st : VStmt}, BodyOk ss st → BodyOk ss (dropS i st)
  | 0, _, h => h
  | i + 1, _, h => drop_ok (i := i) (tail_ok h)
theorem tail_dep {st : VStmt} {n : Nat} (h : wdep st ≤ n) : wdep (tailS st) ≤ n := by
  cases st with
  | done => exact h
  | say k r => exact h
  | call k r => exact h
  | make ps r => exact h
  | when_ x w b r =>
    have h : max (1 + wdep b) (wdep r) ≤ n := h
    show wdep r ≤ n
    omega
theorem drop_dep {n : Nat} : ∀ {i : Nat} {st : VStmt}, wdep st ≤ n → wdep (dropS i st) ≤ n
  | 0, _, h => h
  | i + 1, _, h => drop_dep (i := i) (tail_dep h)
theorem findIdx_map {α β : Type} (f : α → β) (q : β → Bool) : ∀ l : List α, (l.map f).findIdx? q = l.findIdx? fun x => q (f x)
  | [] => rfl
  | a :: r => by
    rw [List.map_cons, List.findIdx?_cons, List.findIdx?_cons, findIdx_map f q r]
theorem part_named (p : Prog) (b : By) : Vakepa.partNamed p b = (namesOf p).findIdx? fun y => y == b := by
  unfold Vakepa.partNamed namesOf
  rw [findIdx_map]
/-! ### the pieces of a made name -/
theorem piece_val {p : Prog} (W : WF p) {v : List Nat} (hv : p.sets.length = v.length) {z : Piece} (h : PieceOk p.sets z) : (valV (chosen p.sets v) (kS (pieceName p.sets z))).getD (sV (pieceName p.sets z)) = sV (Vakepa.pieceText p v z) ∧ (Vakepa.pieceText p v z).length ≤ 1000 := by
  cases z with
  | word b =>
    obtain ⟨h1, h2⟩ := h
    have e : valV (chosen p.sets v) (kS b) = none := chosen_none h1
    refine ⟨?_, by show b.length ≤ 1000; omega⟩
    show (valV (chosen p.sets v) (kS b)).getD (sV b) = sV b
    rw [e]
    rfl
  | set k =>
    have hk : k < p.sets.length := h
    have hs : p.sets[k]? = some p.sets[k] := List.getElem?_eq_getElem hk
    have e := chosen_some hv W.snd hs
    have e1 : pieceName p.sets (.set k) = p.sets[k].name := by
      show ((p.sets[k]?).map fun s => s.name).getD [] = _
      rw [hs]
      rfl
    have e2 : Vakepa.pieceText p v (.set k) = (p.sets[k].values[v.getD k 0]?).getD [] := by
      show ((p.sets[k]?).bind fun s => s.values[v.getD k 0]?).getD [] = _
      rw [hs]
      rfl
    rw [e1, e2, e]
    refine ⟨rfl, ?_⟩
    cases q : p.sets[k].values[v.getD k 0]? with
    | none => exact Nat.zero_le _
    | some x =>
      have := (W.vnd _ (List.mem_of_getElem? hs)).2 x (List.mem_of_getElem? q)
      show x.length ≤ 1000
      omega
/-- the values are those of an assignment -/
structure VOk (p : Prog) (v : List Nat) : Prop where
  len : p.sets.length = v.length
  lt : ∀ (x : Nat) (s : VSet), p.sets[x]? = some s → v.getD x 0 < s.values.length
theorem vals_ok {p : Prog} (W : WF p) (a : Nat) : VOk p (Vakepa.valuesOf p a) := by
  have key : ∀ (ss : List VSet) (a : Nat), (∀ s ∈ ss, 1 ≤ s.values.length) → ∀ (x : Nat) (s : VSet), ss[x]? = some s → (Vakepa.valuesBy (ss.map fun s => s.values.length) a).getD x 0 < s.values.length := by
    intro ss
    induction ss with
    | nil => intro a _ x s h; simp at h
    | cons t r ih =>
      intro a h x s hx
      cases x with
      | zero =>
        have e : t = s := Option.some.inj hx
        subst e
        exact Nat.mod_lt _ (h _ (List.mem_cons_self ..))
      | succ x => exact ih (a / t.values.length) (fun s hs => h s (List.mem_cons_of_mem _ hs)) x s hx
  refine ⟨?_, fun x s h => key p.sets a (fun s hs => (W.vals s hs).1) x s h⟩
  unfold Vakepa.valuesOf Vakepa.counts
  rw [valuesBy_len, List.length_map]
/-- when X is V, as texts -/
theorem when_val {p : Prog} (W : WF p) {v : List Nat} (V' : VOk p v) {x w : Nat} {s : VSet} (hs : p.sets[x]? = some s) (hw : w < s.values.length) :
    valV (chosen p.sets v) (kS (setName p.sets x)) = some (sV ((s.values[v.getD x 0]?).getD [])) ∧ decide (sV ((s.values[v.getD x 0]?).getD []) = sV (setWord p.sets x w)) = decide (v.getD x 0 = w) := by
  have e1 : setName p.sets x = s.name := by
    unfold setName
    rw [hs]
    rfl
  have e2 : setWord p.sets x w = s.values[w] := by
    unfold setWord
    rw [hs]
    show (s.values[w]?).getD [] = _
    rw [List.getElem?_eq_getElem hw]
    rfl
  have hl := V'.lt x s hs
  rw [e1, e2, chosen_some V'.len W.snd hs, List.getElem?_eq_getElem hl]
  refine ⟨rfl, decide_eq_decide.mpr ⟨fun z => ?_, fun z => ?_⟩⟩
  · have q : s.values[v.getD x 0] = s.values[w] := toStr_inj (V.str.inj z)
    exact (List.getElem_inj (W.vnd s (List.mem_of_getElem? hs)).1).mp q
  · show sV s.values[v.getD x 0] = _
    congr 1
    simp only [z]
end Pk
end
section
set_option Elab.async false
set_option linter.all false
set_option maxRecDepth 100000
set_option maxHeartbeats 4000000
namespace Pk
open PySem PySem.Spec PyProof.Rows L2
open Vakepa (Piece Part Prog Raw RawPart)
/-- the classes that isinstance is asked of -/
structure IsiC (K : PySem.W.Frag) (c : Cs) (C : Addr) : Prop where
  cl : Cls K C
  ha : PySem.W.findIn K (.ref C) "__class__" = some (some (.builtin "object.__class__"))
  hn : PySem.W.specialIn K (.builtin "object.__class__") "__get__" = some (some (.builtin "getset_descriptor.__get__"))
  htk : PySem.W.takesIn K (.builtin "object.__class__") = some true
  hm : PySem.W.mroIn K C (.type "object") = some true
  call : PySem.W.kitOne K (.ref C) (.ref c.call) = some (decide (C = c.call))
  make : PySem.W.kitOne K (.ref C) (.ref c.make) = some (decide (C = c.make))
  when_ : PySem.W.kitOne K (.ref C) (.ref c.when_) = some (decide (C = c.when_))
structure RunT (K : PySem.W.Frag) (mg : Str → Option Value) (c : Cs) : Prop where
  cs : CsT K c
  say : IsiC K c c.say
  call : IsiC K c c.call
  make : IsiC K c c.make
  when_ : IsiC K c c.when_
  n1 : c.say ≠ c.call
  n2 : c.say ≠ c.make
  n3 : c.say ≠ c.when_
  n4 : c.call ≠ c.make
  n5 : c.call ≠ c.when_
  n6 : c.make ≠ c.when_
  gCall : mg "Call" = some (.ref c.call)
  gMake : mg "Make" = some (.ref c.make)
  gWhen : mg "When" = some (.ref c.when_)
  isi : mg "isinstance" = none
  well : GI mg "WELL" 0
  deep : GI mg "TOO_DEEP" 1
  long : GI mg "TOO_LONG" 2
  most : GI mg "MOST_DONE" 100
  many : GI mg "TOO_MANY_AROUND" 9
theorem IsiC.ty {K : PySem.W.Frag} {c : Cs} {C : Addr} (I : IsiC K c C) {H : Hp} {o dx : Addr} {fs : List (Str × V)} (h : H o = some (.ins C dx fs)) : TyX K H (.ref o) (.ref C) := .base (.ins h I.cl I.ha I.hn I.htk I.hm)
theorem runF_g {g c l : Addr} {n e : Int} : (runF g c l n e).lookup ("program" : Str) = some (.ref g) := by kernel_rfl
theorem runF_c {g c l : Addr} {n e : Int} : (runF g c l n e).lookup ("chosen" : Str) = some (.ref c) := by kernel_rfl
theorem runF_l {g c l : Addr} {n e : Int} : (runF g c l n e).lookup ("entered" : Str) = some (.ref l) := by kernel_rfl
theorem runF_n {g c l : Addr} {n e : Int} : (runF g c l n e).lookup ("done" : Str) = some (.int n) := by kernel_rfl
theorem runF_put {g c l : Addr} {n e n' : Int} : putF "done" (.int n') (runF g c l n e) = runF g c l n' e := by kernel_rfl
theorem runF_pute {g c l : Addr} {n e e' : Int} : putF "end" (.int e') (runF g c l n e) = runF g c l n e' := by kernel_rfl
theorem runF_enter {g c l : Addr} {n e : Int} : (runF g c l n e).lookup ("enter" : Str) = none := by kernel_rfl
theorem runF_do_all {g c l : Addr} {n e : Int} : (runF g c l n e).lookup ("do_all" : Str) = none := by kernel_rfl
theorem runF_do_one {g c l : Addr} {n e : Int} : (runF g c l n e).lookup ("do_one" : Str) = none := by kernel_rfl
/-- what stands through a run -/
structure Ro where
  r : Addr
  dx : Addr
  g : Addr
  dc : Addr
  le : Addr
  a : PA
  p : Prog
  v : List Nat
  kvs : List (Key × V)
  os : List Addr
structure RunOk (c : Cs) (G : Hp) (x : Ro) : Prop where
  nr : G x.r = none
  nl : G x.le = none
  nx : G x.dx = none
  pr : ProgAt c G x.g x.a x.p x.kvs x.os
  ch : G x.dc = some (.dK (chosen x.p.sets x.v))
  wf : WF x.p
  vo : VOk x.p x.v
structure RunAt (c : Cs) (G H : Hp) (x : Ro) (s : RSt) : Prop where
  sub : Same G H
  obj : H x.r = some (.ins c.run x.dx (runF x.g x.dc x.le s.n 0))
  en : H x.le = some (.lst (s.entered.map fun (k : Nat) => V.int (k : Int)))
  n : s.n ≤ 100
  len : s.entered.length ≤ x.p.parts.length
  lt : ∀ k ∈ s.entered, k < x.p.parts.length
  nd : s.entered.Nodup
/-- all but the run's own object and list -/
def FrR (x : Ro) (H H' : Hp) : Prop := ∀ b o, H b = some o → b ≠ x.r → b ≠ x.le → H' b = some o
theorem FrR.refl {x : Ro} {H : Hp} : FrR x H H := fun _ _ e _ _ => e
theorem FrR.trans {x : Ro} {H H1 H2 : Hp} (a : FrR x H H1) (b : FrR x H1 H2) : FrR x H H2 := fun c o e n1 n2 => b c o (a c o e n1 n2) n1 n2
theorem RunAt.grow {c : Cs} {G H H' : Hp} {x : Ro} {s : RSt} (R : RunAt c G H x s) (e : Same H H') : RunAt c G H' x s :=
  ⟨R.sub.trans e, e _ _ R.obj, e _ _ R.en, R.n, R.len, R.lt, R.nd⟩
theorem ints_in (k : Nat) (l : List Nat) : inV (.int (k : Int)) (l.map fun (k : Nat) => V.int (k : Int)) = l.contains k := by
  unfold inV
  rw [List.any_map]
  induction l with
  | nil => rfl
  | cons a r ih =>
    rw [List.any_cons, List.contains_cons, ih]
    congr 1
    show ((a : Int) == (k : Int)) = (k == a)
    rw [Bool.eq_iff_iff, beq_iff_eq, beq_iff_eq]
    omega
theorem ints_flat (l : List Nat) : (l.map fun (k : Nat) => V.int (k : Int)).all flatV = true := by
  rw [List.all_map, List.all_eq_true]
  intro k _
  rfl
theorem nodup_bound : ∀ (n : Nat) (l : List Nat), l.Nodup → (∀ k ∈ l, k < n) → l.length ≤ n
  | 0, [], _, _ => Nat.le_refl _
  | 0, k :: r, _, h => absurd (h k (List.mem_cons_self ..)) (by omega)
  | n + 1, l, hn, h => by
    have h1 := nodup_bound n (l.erase n) (hn.erase n) (fun k hk => by
      have a := h k (List.mem_of_mem_erase hk)
      have b : k ≠ n := fun z => by
        rw [z] at hk
        exact (List.Nodup.not_mem_erase hn) hk
      omega)
    by_cases q : n ∈ l
    · rw [List.length_erase_of_mem q] at h1
      omega
    · rw [List.erase_of_not_mem q] at h1
      omega
section
variable {P : Program} {w : World} {K : PySem.W.Frag} {mg : Str → Option Value} {base : Heap} {c : Cs}
/-! ### Run.enter, do_all, do_one -/
def spEnter (c : Cs) (m : Nat) : Sp := fun vs H Q _ => ∃ (G : Hp) (x : Ro) (s : RSt) (k : Nat), vs = [.ref x.r, .int k, .int ((9 - m : Nat) : Int)] ∧ RunOk c G x ∧ RunAt c G H x s ∧ k < x.p.parts.length ∧
  ∀ H', RunAt c G H' x (enterR x.p x.v m k s).1 → FrR x H H' → Q (.int ((enterR x.p x.v m k s).2 : Int)) H'
def spAll (c : Cs) (m d : Nat) : Sp := fun vs H Q _ => ∃ (G : Hp) (x : Ro) (s : RSt) (b : Addr) (xs : List V) (st : VStmt), vs = [.ref x.r, .ref b, .int ((8 - m : Nat) : Int)] ∧ RunOk c G x ∧ RunAt c G H x s ∧ G b = some (.lst xs) ∧ BodyL c x.p.sets (namesOf x.p) G st xs ∧ BodyOk x.p.sets st ∧ wdep st ≤ d ∧
  ∀ H', RunAt c G H' x (doAll x.p x.v (enterR x.p x.v m) st s).1 → FrR x H H' → Q (.int ((doAll x.p x.v (enterR x.p x.v m) st s).2 : Int)) H'
def spOne (c : Cs) (m d : Nat) : Sp := fun vs H Q _ => ∃ (G : Hp) (x : Ro) (s : RSt) (o : Addr) (st : VStmt), vs = [.ref x.r, .ref o, .int ((8 - m : Nat) : Int)] ∧ RunOk c G x ∧ RunAt c G H x s ∧ HeadAt c x.p.sets (namesOf x.p) G o st ∧ BodyOk x.p.sets st ∧ wdep st ≤ d ∧
  ∀ H', RunAt c G H' x (doOne x.p x.v (enterR x.p x.v m) st s).1 → FrR x H H' → Q (.int ((doOne x.p x.v (enterR x.p x.v m) st s).2 : Int)) H'
abbrev lvE (m : Nat) : Nat := 2 + 9 * m
theorem scEnter : FnScope ["self", "part", "around"] ["self", "part", "around"] (defScope s_Run_enter) := ⟨rfl, rfl, rfl, by decide +kernel, rfl, by decide +kernel, by decide +kernel⟩
theorem scAll : FnScope ["self", "body", "around", "statement", "end"] ["self", "body", "around"] (defScope s_Run_do_all) := ⟨rfl, rfl, rfl, by decide +kernel, rfl, by decide +kernel, by decide +kernel⟩
theorem scOne : FnScope ["self", "statement", "around", "numbers", "name"] ["self", "statement", "around"] (defScope s_Run_do_one) := ⟨rfl, rfl, rfl, by decide +kernel, rfl, by decide +kernel, by decide +kernel⟩
/-- the part is noted as entered -/
theorem RunAt.noted {G H : Hp} {x : Ro} {s : RSt} {k : Nat} (R : RunAt c G H x s) (O : RunOk c G x) (hk : k < x.p.parts.length) (hn : k ∉ s.entered) :
    RunAt c G (upd H x.le (.lst (s.entered.map (fun (k : Nat) => V.int (k : Int)) ++ [V.int k]))) x ⟨s.entered ++ [k], s.n⟩ := by
  have nrl : x.r ≠ x.le := ne_of R.obj R.en (by intro z; cases z)
  have nd2 : (s.entered ++ [k]).Nodup := nd_snoc R.nd hn
  have lt2 : ∀ j ∈ s.entered ++ [k], j < x.p.parts.length := fun j hj => by
    rcases List.mem_append.mp hj with q | q
    · exact R.lt j q
    · rw [List.mem_singleton.mp q]
      exact hk
  exact ⟨fun b o e => by rw [upd_ne (ne_of_none e O.nl)]; exact R.sub b o e, (upd_ne nrl).trans R.obj, by rw [upd_same, List.map_append]; rfl, R.n, nodup_bound _ _ nd2 lt2, lt2, nd2⟩
theorem ok_enter0 (T : RunT K mg c) (D : MethAt K c.run "enter" "Run.enter" s_Run_enter) : OkM P w K mg base CX0 (lvE 0) c.run "enter" ["self", "part", "around"] (spEnter c 0) := by
  refine OkM.mk' D (fun f fd F => (F.ok scEnter (fun vs H Q E h => ?_) (fun cdv A outer s H vs Q E hr h => ?_) : FnOk P w K mg base CX0 (1 + 1) f fd _ _)) (fun _ _ _ _ _ _ us hl => match us, hl with | [_, _, _], _ => rfl)
  · obtain ⟨G, x, s, k, rfl, _⟩ := h
    rfl
  · obtain ⟨G, x, s, k, rfl, O, R, hk, h⟩ := h
    refine ⟨_, pss_cons (ps_if (pt_cmpR op_notIn_seq (pv 1) (pe_fld (pv 0) rfl) (by rfl)) (pss_one (ps_expr (pe_bm PySem.F.plainAttrs_list PySem.F.slot_list_append PySem.F.type_list_append mt_append (pe_fld (pv 0) rfl) (pa_cons (pv 1) pa_nil)))) pss_nil)
      (pss_cons (ps_if (pt_cmpR op_eq (pv 2) (gi T.many) (nomark _)) (pss_one (ps_ret (gi T.deep))) pss_nil) pss_never), ?_⟩
    have hsz : sizeLine = 16777216 := sizeLine_eq
    have hp10 := O.wf.p10
    have hlen := R.len
    refine ⟨_, rfl, _, rfl, x.r, c.run, x.dx, _, _, rfl, R.obj, T.cs.run.cl, T.cs.run.no _ (by decide), runF_l, x.le, _, rfl, .inl (SqL.of R.en), rfl, ints_flat _, _, rfl, ?_⟩
    rw [if_pos rfl, ints_in]
    refine itb (fun hc => ?_) (fun hc => ?_)
    · have hn : k ∉ s.entered := fun z => by rw [List.contains_iff_mem.mpr z] at hc; cases hc
      refine ⟨_, rfl, x.r, c.run, x.dx, _, _, rfl, R.obj, T.cs.run.cl, T.cs.run.no _ (by decide), runF_l, .inl ⟨rfl, _, SqL.of R.en⟩, _, rfl, x.le, _, _, rfl, rfl, R.en, (by rw [List.length_map]; omega), ?_⟩
      refine ⟨_, rfl, rfl, _, rfl, ?_⟩
      refine iteT ?_
      have R2 := R.noted O hk hn
      have e : (enterR x.p x.v 0 k s) = (⟨s.entered ++ [k], s.n⟩, 1) := by
        show ((⟨Vakepa.mark k s.entered, s.n⟩ : RSt), 1) = _
        unfold Vakepa.mark
        rw [if_neg (fun z => hn (List.contains_iff_mem.mp z))]
      rw [e] at h
      exact h _ R2 fun b o e n1 n2 => by rw [upd_ne n2]; exact e
    · have hn : k ∈ s.entered := List.contains_iff_mem.mp (by simpa using hc)
      refine ⟨_, rfl, rfl, _, rfl, ?_⟩
      refine iteT ?_
      have e : (enterR x.p x.v 0 k s) = (s, 1) := by
        show ((⟨Vakepa.mark k s.entered, s.n⟩ : RSt), 1) = _
        unfold Vakepa.mark
        rw [if_pos (List.contains_iff_mem.mpr hn)]
      rw [e] at h
      exact h H R FrR.refl
end
end Pk
end
section
set_option Elab.async false
set_option linter.all false
set_option maxRecDepth 100000
set_option maxHeartbeats 4000000
namespace Pk
open PySem PySem.Spec PyProof.Rows L2
open Vakepa (Piece Part Prog Raw RawPart)
theorem partF_body {k : Int} {q : Addr} : (partF k q).lookup ("body" : Str) = some (.ref q) := by kernel_rfl
theorem partF_size {k : Int} {q : Addr} : (partF k q).lookup ("size" : Str) = some (.int k) := by kernel_rfl
section
variable {P : Program} {w : World} {K : PySem.W.Frag} {mg : Str → Option Value} {base : Heap} {c : Cs}
theorem ok_enterS (T : RunT K mg c) {m : Nat} (hm : m ≤ 8) (D : MethAt K c.run "enter" "Run.enter" s_Run_enter)
    (A1 : OkM P w K mg base CX0 (lvE m + 8) c.run "do_all" ["self", "body", "around"] (spAll c m 3)) : OkM P w K mg base CX0 (lvE m + 9) c.run "enter" ["self", "part", "around"] (spEnter c (m + 1)) := by
  refine OkM.mk' D (fun f fd F => (F.ok scEnter (fun vs H Q E h => ?_) (fun cdv A outer s H vs Q E hr h => ?_) : FnOk P w K mg base CX0 (lvE m + 8 + 1) f fd _ _)) (fun _ _ _ _ _ _ us hl => match us, hl with | [_, _, _], _ => rfl)
  · obtain ⟨G, x, s, k, rfl, _⟩ := h
    rfl
  · obtain ⟨G, x, s, k, rfl, O, R, hk, h⟩ := h
    refine ⟨_, pss_cons (ps_if (pt_cmpR op_notIn_seq (pv 1) (pe_fld (pv 0) rfl) (by rfl)) (pss_one (ps_expr (pe_bm PySem.F.plainAttrs_list PySem.F.slot_list_append PySem.F.type_list_append mt_append (pe_fld (pv 0) rfl) (pa_cons (pv 1) pa_nil)))) pss_nil)
      (pss_cons (ps_if (pt_cmpR op_eq (pv 2) (gi T.many) (nomark _)) (pss_one (ps_ret (gi T.deep))) pss_nil)
      (pss_one (ps_ret (cm (pv 0) T.cs.run.cl A1 hr pass0 (pa_cons (pe_fld (pe_ix ix_list (pe_fld (pe_fld (pv 0) rfl) rfl) (pv 1) (fun _ _ => rfl)) rfl) (pa_cons (pv 2) pa_nil)))))), ?_⟩
    have hsz : sizeLine = 16777216 := sizeLine_eq
    have hp10 := O.wf.p10
    have hlen := R.len
    obtain ⟨gx, hg⟩ := O.pr.obj
    obtain ⟨pt, hpt⟩ : ∃ pt, x.p.parts[k]? = some pt := ⟨_, List.getElem?_eq_getElem hk⟩
    obtain ⟨o, ho, b, xs, ⟨ox, hob⟩, hb, hbody⟩ := O.pr.parts.get hpt
    have hwf := O.wf.body pt (List.mem_of_getElem? hpt)
    have hbo : Vakepa.bodyOf x.p k = pt.body := by
      unfold Vakepa.bodyOf
      rw [hpt]
      rfl
    -- behind the note
    have go : ∀ (H1 : Hp) (s1 : RSt), RunAt c G H1 x s1 → FrR x H H1 → s1 = ⟨Vakepa.mark k s.entered, s.n⟩ →
        tRet (tMeth c.run "do_all" (spAll c m 3) [] E0 (tVar 0) (tCons (tFld K (tOp (rIxL K) (tFld K (tFld K (tVar 0) "program") "parts") (tVar 1)) "body") (tCons (tVar 2) tNil)))
          { nx := fun _ H' => Q .non H', rt := Q } [some (.ref x.r), some (.int k), some (.int ((9 - (m + 1) : Nat) : Int))] H1 := by
      intro H1 s1 R1 fr e1
      refine ⟨_, rfl, x.r, x.dx, _, rfl, R1.obj, runF_do_all, _, rfl, x.r, c.run, x.dx, _, _, rfl, R1.obj, T.cs.run.cl, T.cs.run.no _ (by decide), runF_g, x.g, c.prog, gx, _, _, rfl, R1.sub _ _ hg, T.cs.prog.cl, T.cs.prog.no _ (by decide), progF_p,
        _, rfl, x.a.lp, _, _, _, rfl, rfl, SqL.of (R1.sub _ _ O.pr.lp), atI_nat (v := .ref o) (by rw [List.getElem?_map, ho]; rfl), o, c.part, ox, _, _, rfl, R1.sub _ _ hob, T.cs.part.cl, T.cs.part.no _ (by decide), partF_body, _, rfl, ?_⟩
      refine ⟨G, x, s1, b, xs, pt.body, ?_, O, R1, hb, hbody, hwf.1, hwf.2, fun H2 R2 fr2 => ?_⟩
      · have : 9 - (m + 1) = 8 - m := by omega
        rw [this]
        rfl
      · have e : enterR x.p x.v (m + 1) k s = doAll x.p x.v (enterR x.p x.v m) pt.body s1 := by
          rw [e1, ← hbo]
          rfl
        rw [← e] at R2 ⊢
        exact h H2 R2 (fr.trans fr2)
    refine ⟨_, rfl, _, rfl, x.r, c.run, x.dx, _, _, rfl, R.obj, T.cs.run.cl, T.cs.run.no _ (by decide), runF_l, x.le, _, rfl, .inl (SqL.of R.en), rfl, ints_flat _, _, rfl, ?_⟩
    rw [if_pos rfl, ints_in]
    have nine : decide (V.int ((9 - (m + 1) : Nat) : Int) = V.int 9) = false := decide_eq_false (fun z => by have z' : ((9 - (m + 1) : Nat) : Int) = 9 := V.int.inj z; omega)
    refine itb (fun hc => ?_) (fun hc => ?_)
    · have hn : k ∉ s.entered := fun z => by rw [List.contains_iff_mem.mpr z] at hc; cases hc
      refine ⟨_, rfl, x.r, c.run, x.dx, _, _, rfl, R.obj, T.cs.run.cl, T.cs.run.no _ (by decide), runF_l, .inl ⟨rfl, _, SqL.of R.en⟩, _, rfl, x.le, _, _, rfl, rfl, R.en, (by rw [List.length_map]; omega), ?_⟩
      refine ⟨_, rfl, rfl, _, rfl, ?_⟩
      rw [nine]
      refine iteF ?_
      refine go _ _ (R.noted O hk hn) (fun b o e n1 n2 => by rw [upd_ne n2]; exact e) ?_
      unfold Vakepa.mark
      rw [if_neg (fun z => hn (List.contains_iff_mem.mp z))]
    · have hn : k ∈ s.entered := List.contains_iff_mem.mp (by simpa using hc)
      refine ⟨_, rfl, rfl, _, rfl, ?_⟩
      rw [nine]
      refine iteF ?_
      refine go _ _ R FrR.refl ?_
      unfold Vakepa.mark
      rw [if_pos (List.contains_iff_mem.mpr hn)]
theorem ok_all (T : RunT K mg c) {m d l : Nat} (D : MethAt K c.run "do_all" "Run.do_all" s_Run_do_all)
    (A1 : OkM P w K mg base CX0 l c.run "do_one" ["self", "statement", "around"] (spOne c m d)) : OkM P w K mg base CX0 (l + 1) c.run "do_all" ["self", "body", "around"] (spAll c m d) := by
  refine OkM.mk' D (fun f fd F => F.ok scAll (fun vs H Q E h => ?_) (fun cdv A outer s H vs Q E hr h => ?_)) (fun _ _ _ _ _ _ us hl => match us, hl with | [_, _, _], _ => rfl)
  · obtain ⟨G, x, s, b, xs, st, rfl, _⟩ := h
    rfl
  · obtain ⟨G, x, s, b, xs, st, rfl, O, R, hb, hbody, hok, hdep, h⟩ := h
    refine ⟨_, pss_cons (ps_for PassesOwn.never rfl (pi_list (pv 1)) (pg_name (i := 3) scAll.nd rfl (.inl rfl))
        (pss_cons (ps_if (pt_cmpR op_eq (pe_fld (pv 0) rfl) (gi T.most) (nomark _)) (pss_one (ps_ret (gi T.long))) pss_nil)
        (pss_cons (ps_fldaug (pv 0) pe_int in_add)
        (pss_cons (ps_set (i := 4) scAll.nd rfl (.inl rfl) (cm (pv 0) T.cs.run.cl A1 hr pass0 (pa_cons (pv 3) (pa_cons (pv 2) pa_nil))))
        (pss_one (ps_if (pt_cmpR op_ne (pv 4) (gi T.well) (nomark _)) (pss_one (ps_ret (pv 4))) pss_nil))))))
      (pss_one (ps_ret (gi T.well))), ?_⟩
    refine ⟨_, rfl, b, rfl, ⟨_, SqL.of (R.sub _ _ hb)⟩, for_list (K := K) (a := b) (xs := xs) (fun i σ H' => ∃ (v3 v4 : Option V) (t : RSt), σ = [some (.ref x.r), some (.ref b), some (.int ((8 - m : Nat) : Int)), v3, v4] ∧ RunAt c G H' x t ∧ FrR x H H' ∧
        doAll x.p x.v (enterR x.p x.v m) st s = doAll x.p x.v (enterR x.p x.v m) (dropS i st) t)
      ⟨none, none, s, rfl, R, FrR.refl, rfl⟩ (fun i σ H' _ ⟨_, _, _, _, R', _, _⟩ => SqL.of (R'.sub _ _ hb)) ?_ ?_⟩
    · rintro i y σ H1 hy ⟨v3, v4, t, rfl, R1, fr1, e1⟩
      obtain ⟨o, rfl, hh⟩ := body_at hbody hy
      have hnd : dropS i st ≠ .done := fun z => by rw [z] at hh; exact hh
      rw [doAll_one hnd] at e1
      refine ⟨_, rfl, x.r, c.run, x.dx, _, _, rfl, R1.obj, T.cs.run.cl, T.cs.run.no _ (by decide), runF_n, rfl, _, rfl, ?_⟩
      have hn100 := R1.n
      refine ited (fun h1 => ?_) (fun h1 => ?_)
      · have ht : 100 ≤ t.n := by have z : (t.n : Int) = 100 := V.int.inj h1; omega
        rw [if_pos ht] at e1
        rw [e1] at h
        exact h H1 R1 fr1
      · have ht : ¬ 100 ≤ t.n := fun z => h1 (by have : t.n = 100 := by omega
                                                 rw [this]; rfl)
        rw [if_neg ht] at e1
        refine ⟨_, rfl, x.r, c.run, x.dx, _, _, rfl, R1.obj, T.cs.run.cl, T.cs.run.no _ (by decide), runF_n, _, _, rfl, rfl, _, _, R1.obj, (by show 5 < 1000; decide), ?_⟩
        rw [runF_put]
        have nrl : x.r ≠ x.le := ne_of R1.obj R1.en (by intro z; cases z)
        have R2 : RunAt c G (upd H1 x.r (.ins c.run x.dx (runF x.g x.dc x.le ((t.n : Int) + 1) 0))) x ⟨t.entered, t.n + 1⟩ :=
          ⟨fun b o e => by rw [upd_ne (ne_of_none e O.nr)]; exact R1.sub b o e, by rw [upd_same]; rfl, (upd_ne (Ne.symm nrl)).trans R1.en, by show t.n + 1 ≤ 100; omega, R1.len, R1.lt, R1.nd⟩
        have fr2 : FrR x H (upd H1 x.r (.ins c.run x.dx (runF x.g x.dc x.le ((t.n : Int) + 1) 0))) := fun b o e n1 n2 => by rw [upd_ne n1]; exact fr1 b o e n1 n2
        refine ⟨_, rfl, x.r, x.dx, _, rfl, upd_same, runF_do_one, _, rfl, _, rfl, G, x, ⟨t.entered, t.n + 1⟩, o, dropS i st, rfl, O, R2, hh, drop_ok hok, drop_dep hdep, fun H3 R3 fr3 => ?_⟩
        unfold thenDo at e1
        generalize doOne x.p x.v (enterR x.p x.v m) (dropS i st) ⟨t.entered, t.n + 1⟩ = res at e1 R3 ⊢
        refine ⟨_, rfl, rfl, _, rfl, ?_⟩
        refine itnd (fun h5 => ?_) (fun h5 => ?_)
        · have hne : ¬ res.2 = 0 := fun z => h5 (by rw [z]; rfl)
          rw [if_neg hne] at e1
          rw [e1] at h
          exact ⟨_, rfl, h H3 R3 (fr2.trans fr3)⟩
        · have heq : res.2 = 0 := by have z : (res.2 : Int) = 0 := V.int.inj h5; omega
          rw [if_pos heq] at e1
          exact ⟨some (.ref o), some (.int res.2), res.1, rfl, R3, fr2.trans fr3, by rw [e1, dropS_succ]⟩
    · rintro σ H1 ⟨v3, v4, t, rfl, R1, fr1, e1⟩
      rw [body_end hbody] at e1
      have e1 : doAll x.p x.v (enterR x.p x.v m) st s = (t, 0) := e1
      rw [e1] at h
      exact h H1 R1 fr1
end
end Pk
end
section
set_option Elab.async false
set_option linter.all false
set_option maxRecDepth 100000
set_option maxHeartbeats 4000000
namespace Pk
open PySem PySem.Spec PyProof.Rows L2
open Vakepa (Piece Part Prog Raw RawPart)
theorem callF_name {n : Str} : (callF n).lookup ("name" : Str) = some (.str n) := by kernel_rfl
theorem makeF_pieces {q : Addr} : (makeF q).lookup ("pieces" : Str) = some (.ref q) := by kernel_rfl
theorem whenF_setting {x v : Str} {q : Addr} : (whenF x v q).lookup ("setting" : Str) = some (.str x) := by kernel_rfl
theorem whenF_word {x v : Str} {q : Addr} : (whenF x v q).lookup ("word" : Str) = some (.str v) := by kernel_rfl
theorem whenF_body {x v : Str} {q : Addr} : (whenF x v q).lookup ("body" : Str) = some (.ref q) := by kernel_rfl
def spAllP (c : Cs) (m : Nat) : Nat → Sp
  | 0 => fun _ _ _ _ => False
  | d + 1 => spAll c m d
theorem named_val (p : Prog) (b : By) : valV (numsFrom 0 (namesOf p)) (kS b) = (Vakepa.partNamed p b).map fun (i : Nat) => V.int (i : Int) := by
  rw [nums_val, part_named]
  congr 1
  funext i
  rw [Nat.zero_add]
theorem named_lt {p : Prog} {b : By} {k : Nat} (h : Vakepa.partNamed p b = some k) : k < p.parts.length := (List.findIdx?_eq_some_iff_findIdx_eq.mp h).1
section
variable {P : Program} {w : World} {K : PySem.W.Frag} {mg : Str → Option Value} {base : Heap} {c : Cs}
theorem ok_one (T : RunT K mg c) {m d l : Nat} (hm : m ≤ 8) (hl1 : lvE m ≤ l) (D : MethAt K c.run "do_one" "Run.do_one" s_Run_do_one)
    (A1 : OkM P w K mg base CX0 (lvE m) c.run "enter" ["self", "part", "around"] (spEnter c m)) (A2 : OkM P w K mg base CX0 l c.run "do_all" ["self", "body", "around"] (spAllP c m d)) (A3 : Ok P w K mg base CX0 1 "made_name" ["pieces", "chosen"] spMade) :
    OkM P w K mg base CX0 (l + 1) c.run "do_one" ["self", "statement", "around"] (spOne c m d) := by
  refine OkM.mk' D (fun f fd F => F.ok scOne (fun vs H Q E h => ?_) (fun cdv A outer s H vs Q E hr h => ?_)) (fun _ _ _ _ _ _ us hl => match us, hl with | [_, _, _], _ => rfl)
  · obtain ⟨G, x, s, o, st, rfl, _⟩ := h
    rfl
  · obtain ⟨G, x, s, o, st, rfl, O, R, hh, hok, hdep, h⟩ := h
    have hu := hu_of hr
    have hrE : Room (lvE m) _ := hr.mono hl1
    have hr1 : Room 1 _ := hrE.mono (by show 1 ≤ 2 + 9 * m; omega)
    refine ⟨_, pss_cons (ps_set (i := 3) scOne.nd rfl (.inl rfl) (pe_fld (pe_fld (pv 0) rfl) rfl))
      (pss_cons (ps_if (pt_val (pe_callB call_isi (by rfl) T.isi boot_isinstance (pa_cons (pv 1) (pa_cons (gr T.gCall) pa_nil)))) (pss_one (ps_ret (cm (pv 0) T.cs.run.cl A1 hrE pass0 (pa_cons (pe_dget hu (pv 3) (pe_fld (pv 1) rfl) (fun _ _ => rfl)) (pa_cons (pe_op op_add (pv 2) pe_int) pa_nil))))) pss_nil)
      (pss_cons (ps_if (pt_val (pe_callB call_isi (by rfl) T.isi boot_isinstance (pa_cons (pv 1) (pa_cons (gr T.gMake) pa_nil))))
        (pss_cons (ps_set (i := 4) scOne.nd rfl (.inl rfl) (cl A3 hr1 pass0 (pa_cons (pe_fld (pv 1) rfl) (pa_cons (pe_fld (pv 0) rfl) pa_nil))))
        (pss_one (ps_if (pt_cmp (pc_din hu (pv 4) (pv 3)) (by rfl)) (pss_one (ps_ret (cm (pv 0) T.cs.run.cl A1 hrE pass0 (pa_cons (pe_dget hu (pv 3) (pv 4) (fun _ _ => rfl)) (pa_cons (pe_op op_add (pv 2) pe_int) pa_nil))))) pss_nil))) pss_nil)
      (pss_cons (ps_if (PW.pt (pw_and (pt_val (pe_callB call_isi (by rfl) T.isi boot_isinstance (pa_cons (pv 1) (pa_cons (gr T.gWhen) pa_nil)))) (pw_and1 (pt_cmpR op_eq (pe_dget hu (pe_fld (pv 0) rfl) (pe_fld (pv 1) rfl) (fun _ _ => rfl)) (pe_fld (pv 1) rfl) (nomark _)))))
        (pss_one (ps_ret (cm (pv 0) T.cs.run.cl A2 hr pass0 (pa_cons (pe_fld (pv 1) rfl) (pa_cons (pv 2) pa_nil))))) pss_nil)
      (pss_one (ps_ret (gi T.well)))))), ?_⟩
    obtain ⟨gx, hg⟩ := O.pr.obj
    have around : ((8 - m : Nat) : Int) + 1 = ((9 - m : Nat) : Int) := by omega
    have sdn := R.sub _ _ O.pr.dn
    have sch := R.sub _ _ O.ch
    refine ⟨_, rfl, x.r, c.run, x.dx, _, _, rfl, R.obj, T.cs.run.cl, T.cs.run.no _ (by decide), runF_g, x.g, c.prog, gx, _, _, rfl, R.sub _ _ hg, T.cs.prog.cl, T.cs.prog.no _ (by decide), progF_n, ?_⟩
    cases st with
    | done => exact hh.elim
    | say k r =>
      obtain ⟨ox, ho⟩ := hh
      have ho := R.sub _ _ ho
      refine ⟨_, rfl, _, _, _, _, _, rfl, .own c.call, T.say.ty ho, T.say.call, _, rfl, ?_⟩
      rw [decide_eq_false T.n1]
      refine iteF ?_
      refine ⟨_, rfl, _, _, _, _, _, rfl, .own c.make, T.say.ty ho, T.say.make, _, rfl, ?_⟩
      rw [decide_eq_false T.n2]
      refine iteF ?_
      refine ⟨_, rfl, _, _, _, _, _, rfl, .own c.when_, T.say.ty ho, T.say.when_, _, rfl, ?_⟩
      rw [decide_eq_false T.n3]
      refine iteF (iteF ?_)
      exact h H R FrR.refl
    | call k r =>
      obtain ⟨n, hn, ox, ho⟩ := hh
      have ho := R.sub _ _ ho
      refine ⟨_, rfl, _, _, _, _, _, rfl, .own c.call, T.call.ty ho, T.call.call, _, rfl, ?_⟩
      rw [decide_eq_true rfl]
      refine iteT ?_
      have hnv : valV (numsFrom 0 (namesOf x.p)) (kS n) = some (.int k) := by
        rw [named_val, part_named, hn]
        rfl
      have hk : k < x.p.parts.length := named_lt (by rw [part_named]; exact hn)
      refine ⟨_, rfl, x.r, x.dx, _, rfl, R.obj, runF_enter, _, rfl, _, rfl, o, c.call, ox, _, _, rfl, ho, T.cs.call.cl, T.cs.call.no _ (by decide), callF_name, x.a.dn, _, rfl, (by rw [← hnv]; exact DGet.k (k := kS n) sdn), _, rfl, _, _, rfl, rfl, ?_⟩
      refine ⟨G, x, s, k, ?_, O, R, hk, fun H2 R2 fr2 => h H2 R2 fr2⟩
      rw [← around]
      rfl
    | make ps r =>
      obtain ⟨q, ⟨ox, ho⟩, hq⟩ := hh
      have ho := R.sub _ _ ho
      have hq := R.sub _ _ hq
      refine ⟨_, rfl, _, _, _, _, _, rfl, .own c.call, T.make.ty ho, T.make.call, _, rfl, ?_⟩
      rw [decide_eq_false (Ne.symm T.n4)]
      refine iteF ?_
      refine ⟨_, rfl, _, _, _, _, _, rfl, .own c.make, T.make.ty ho, T.make.make, _, rfl, ?_⟩
      rw [decide_eq_true rfl]
      refine iteT ?_
      refine ⟨_, rfl, o, c.make, ox, _, _, rfl, ho, T.cs.make.cl, T.cs.make.no _ (by decide), makeF_pieces, _, rfl, x.r, c.run, x.dx, _, _, rfl, R.obj, T.cs.run.cl, T.cs.run.no _ (by decide), runF_c, ?_⟩
      refine ⟨q, x.dc, ps, pieceName x.p.sets, Vakepa.pieceText x.p x.v, _, rfl, hq, sch, fun z hz => piece_val O.wf O.vo.len (hok.2.1 z hz), (by have := hok.1; omega), fun H1 s1 => ?_⟩
      have R1 := R.grow s1
      have fr1 : FrR x H H1 := fun b o e _ _ => s1 b o e
      have nv := named_val x.p (Vakepa.madeName x.p x.v ps)
      refine ⟨_, rfl, _, rfl, x.a.dn, _, rfl, DGet.k (k := kS (Vakepa.madeName x.p x.v ps)) (s1 _ _ sdn), _, rfl, ?_⟩
      cases e : Vakepa.partNamed x.p (Vakepa.madeName x.p x.v ps) with
      | none =>
        rw [e] at nv
        rw [nv]
        refine iteF ?_
        have ho1 := s1 _ _ ho
        refine ⟨_, rfl, _, _, _, _, _, rfl, .own c.when_, T.make.ty ho1, T.make.when_, _, rfl, ?_⟩
        rw [decide_eq_false T.n6]
        refine iteF (iteF ?_)
        have z : doOne x.p x.v (enterR x.p x.v m) (.make ps r) s = (s, 0) := by
          show (match Vakepa.partNamed x.p (Vakepa.madeName x.p x.v ps) with | none => (s, 0) | some k => enterR x.p x.v m k s) = _
          rw [e]
        rw [z] at h
        exact h H1 R1 fr1
      | some k =>
        rw [e] at nv
        rw [nv]
        refine iteT ?_
        refine ⟨_, rfl, x.r, x.dx, _, rfl, R1.obj, runF_enter, _, rfl, _, rfl, x.a.dn, _, rfl, (by rw [show some _ = valV (numsFrom 0 (namesOf x.p)) (kS (Vakepa.madeName x.p x.v ps)) from nv.symm]; exact DGet.k (k := kS (Vakepa.madeName x.p x.v ps)) (s1 _ _ sdn)), _, rfl, _, _, rfl, rfl, ?_⟩
        have z : doOne x.p x.v (enterR x.p x.v m) (.make ps r) s = enterR x.p x.v m k s := by
          show (match Vakepa.partNamed x.p (Vakepa.madeName x.p x.v ps) with | none => (s, 0) | some k => enterR x.p x.v m k s) = _
          rw [e]
        rw [z] at h
        refine ⟨G, x, s, k, ?_, O, R1, named_lt e, fun H2 R2 fr2 => h H2 R2 (fr1.trans fr2)⟩
        rw [← around]
        rfl
    | when_ xx vv b r =>
      obtain ⟨q, zs, ⟨ox, ho⟩, hq, hb⟩ := hh
      have ho := R.sub _ _ ho
      obtain ⟨⟨st, hst, hv⟩, hokb, _⟩ := hok
      obtain ⟨w1, w2⟩ := when_val O.wf O.vo hst hv
      have hdep : max (1 + wdep b) (wdep r) ≤ d := hdep
      refine ⟨_, rfl, _, _, _, _, _, rfl, .own c.call, T.when_.ty ho, T.when_.call, _, rfl, ?_⟩
      rw [decide_eq_false (Ne.symm T.n5)]
      refine iteF ?_
      refine ⟨_, rfl, _, _, _, _, _, rfl, .own c.make, T.when_.ty ho, T.when_.make, _, rfl, ?_⟩
      rw [decide_eq_false (Ne.symm T.n6)]
      refine iteF ?_
      refine ⟨_, rfl, _, _, _, _, _, rfl, .own c.when_, T.when_.ty ho, T.when_.when_, _, rfl, ?_⟩
      rw [decide_eq_true rfl]
      refine iteT ?_
      refine ⟨_, rfl, x.r, c.run, x.dx, _, _, rfl, R.obj, T.cs.run.cl, T.cs.run.no _ (by decide), runF_c, _, rfl, o, c.when_, ox, _, _, rfl, ho, T.cs.when_.cl, T.cs.when_.no _ (by decide), whenF_setting, x.dc, _, rfl, (by rw [← w1]; exact DGet.k (k := kS (setName x.p.sets xx)) sch), _, rfl, o, c.when_, ox, _, _, rfl, ho, T.cs.when_.cl, T.cs.when_.no _ (by decide), whenF_word, rfl, _, rfl, ?_⟩
      have w2 : decide (sV ((st.values[x.v.getD xx 0]?).getD []) = V.str (toStr (setWord x.p.sets xx vv))) = decide (x.v.getD xx 0 = vv) := w2
      rw [w2]
      by_cases e : x.v.getD xx 0 = vv
      · rw [decide_eq_true e]
        refine iteT ?_
        have z : doOne x.p x.v (enterR x.p x.v m) (.when_ xx vv b r) s = doAll x.p x.v (enterR x.p x.v m) b s := if_pos e
        rw [z] at h
        refine ⟨_, rfl, x.r, x.dx, _, rfl, R.obj, runF_do_all, _, rfl, o, c.when_, ox, _, _, rfl, ho, T.cs.when_.cl, T.cs.when_.no _ (by decide), whenF_body, _, rfl, ?_⟩
        match d, hdep with
        | 0, hdep => omega
        | d + 1, hdep => exact ⟨G, x, s, q, zs, b, rfl, O, R, hq, hb, hokb, by omega, fun H2 R2 fr2 => h H2 R2 fr2⟩
      · rw [decide_eq_false e]
        refine iteF ?_
        have z : doOne x.p x.v (enterR x.p x.v m) (.when_ xx vv b r) s = (s, 0) := if_neg e
        rw [z] at h
        exact h H R FrR.refl
end
end Pk
end
section
set_option Elab.async false
set_option linter.all false
set_option maxRecDepth 100000
set_option maxHeartbeats 4000000
namespace Pk
open PySem PySem.Spec PyProof.Rows L2
open Vakepa (Piece Part Prog Raw RawPart)
section
variable {P : Program} {w : World} {K : PySem.W.Frag} {mg : Str → Option Value} {base : Heap} {c : Cs}
theorem OkM.mono {CX : CXT} {j k : Nat} {C : Addr} {m : Str} {ps : List Str} {sp : Sp} (h : OkM P w K mg base CX j C m ps sp) (hjk : j ≤ k) : OkM P w K mg base CX k C m ps sp := by
  obtain ⟨f, fd, F, g, b⟩ := h.ex
  exact ⟨f, fd, F.mono hjk, g, b⟩
theorem all_runs (T : RunT K mg c) (DE : MethAt K c.run "enter" "Run.enter" s_Run_enter) (DA : MethAt K c.run "do_all" "Run.do_all" s_Run_do_all) (DO : MethAt K c.run "do_one" "Run.do_one" s_Run_do_one)
    (A3 : Ok P w K mg base CX0 1 "made_name" ["pieces", "chosen"] spMade) : ∀ m, m ≤ 9 → OkM P w K mg base CX0 (lvE m) c.run "enter" ["self", "part", "around"] (spEnter c m)
  | 0, _ => ok_enter0 T DE
  | m + 1, h => by
    have ih := all_runs T DE DA DO A3 m (by omega)
    have dn : ∀ d, OkM P w K mg base CX0 (lvE m + 2 * d + 2) c.run "do_all" ["self", "body", "around"] (spAll c m d) := by
      intro d
      induction d with
      | zero =>
        have A2 : OkM P w K mg base CX0 (lvE m) c.run "do_all" ["self", "body", "around"] (spAllP c m 0) := by
          obtain ⟨f, fd, F, g⟩ := DA.ex
          exact ⟨f, fd, ⟨fun _ _ _ _ h => h.elim, fun _ _ _ _ _ _ _ _ _ _ _ _ _ h => h.elim⟩, g, F.binds fun _ _ _ _ _ _ us hl => match us, hl with | [_, _, _], _ => rfl⟩
        exact ok_all T DA (ok_one T (by omega) (Nat.le_refl _) DO ih A2 A3)
      | succ d ihd => exact ok_all T DA (ok_one T (d := d + 1) (by omega) (by omega) DO ih ihd A3)
    exact ok_enterS T (by omega) DE (dn 3)
/-! ### a run -/
def spRunI (c : Cs) : Sp := fun vs H Q _ => ∃ (G : Hp) (r dx g : Addr) (a : PA) (p : Prog) (kvs : List (Key × V)) (os : List Addr) (n : Nat), vs = [.ref r, .ref g, .int n] ∧ H r = some (.ins c.run dx []) ∧ Same G H ∧ G r = none ∧ ProgAt c G g a p kvs os ∧ WF p ∧ n ≤ 100 ∧
  ∀ (H' : Hp) (dc le : Addr), H' r = some (.ins c.run dx (runF g dc le 0 0)) → H dc = none → H le = none → H' dc = some (.dK (chosen p.sets (Vakepa.valuesOf p n))) → H' le = some (.lst []) → (∀ b o, H b = some o → b ≠ r → H' b = some o) → Q .non H'
theorem scRunI : FnScope ["self", "program", "assignment"] ["self", "program", "assignment"] (defScope s_Run_init) := ⟨rfl, rfl, rfl, by decide +kernel, rfl, by decide +kernel, by decide +kernel⟩
theorem ok_runI (T : RunT K mg c) (D : InitAt K mg c.run "Run" "Run.__init__" s_Run_init) (AW : Ok P w K mg base CX0 1 "words_chosen" ["program", "assignment"] (spWords c)) : OkI P w K mg base CX0 2 c.run "Run" ["self", "program", "assignment"] (spRunI c) := by
  refine OkI.mk' D (fun f fd F => F.ok scRunI (fun vs H Q E h => ?_) (fun cdv A outer s H vs Q E hr h => ?_)) (fun _ _ _ _ _ _ us hl => match us, hl with | [_, _, _], _ => rfl)
  · obtain ⟨G, r, dx, g, a, p, kvs, os, n, rfl, _⟩ := h
    rfl
  · obtain ⟨G, r, dx, g, a, p, kvs, os, n, rfl, hr0, hG, hGr, PAt, W, hn, h⟩ := h
    refine ⟨_, pss_cons (ps_fld (pv 0) (pv 1) rfl) (pss_cons (ps_fld (pv 0) (cl AW hr pass0 (pa_cons (pv 1) (pa_cons (pv 2) pa_nil))) rfl) (pss_cons (ps_fld (pv 0) (pe_lst pa_nil) rfl) (pss_cons (ps_fld (pv 0) pe_int rfl) (pss_one (ps_fld (pv 0) (gi T.well) rfl))))), ?_⟩
    have Tc := T.cs.run
    refine ⟨_, rfl, _, rfl, r, c.run, dx, _, rfl, hr0, Tc.cl, Tc.no _ (by decide), (by decide), ?_⟩
    have G1 : Same G (upd H r (.ins c.run dx (putF "program" (.ref g) []))) := fun b o e => by
      rw [upd_ne (ne_of_none e hGr)]
      exact hG b o e
    refine ⟨_, rfl, _, rfl, g, a, p, kvs, os, n, rfl, PAt.same G1, W, hn, fun H2 dc s2 hdc hdc2 => ?_⟩
    have nrc : r ≠ dc := ne_of_none upd_same hdc
    refine ⟨_, rfl, r, c.run, dx, _, rfl, s2 _ _ upd_same, Tc.cl, Tc.no _ (by decide), (by show 1 < 1000; decide), ?_⟩
    refine ⟨Nat.zero_le _, fun le hle => ?_⟩
    have nrl : r ≠ le := ne_of_none upd_same hle
    have ncl : dc ≠ le := ne_of_none (o := .dK _) ((upd_ne (Ne.symm nrc)).trans hdc2) hle
    refine ⟨_, rfl, r, c.run, dx, _, rfl, (upd_ne nrl).trans upd_same, Tc.cl, Tc.no _ (by decide), (by show 2 < 1000; decide), ?_⟩
    refine ⟨_, rfl, r, c.run, dx, _, rfl, upd_same, Tc.cl, Tc.no _ (by decide), (by show 3 < 1000; decide), ?_⟩
    refine ⟨_, rfl, r, c.run, dx, _, rfl, upd_same, Tc.cl, Tc.no _ (by decide), (by show 4 < 1000; decide), ?_⟩
    have h1 : ∀ b, b ≠ r → upd H r (.ins c.run dx (putF "program" (.ref g) [])) b = H b := fun b n => upd_ne n
    refine h _ dc le (upd_same.trans (congrArg (fun q => some (HO.ins c.run dx q)) ?_)) (by rw [h1 _ (Ne.symm nrc)] at hdc; exact hdc) ?_ ?_ ?_ (fun b o e nb => ?_)
    · show putF "end" (.int 0) (putF "done" (.int 0) (putF "entered" (.ref le) (putF "chosen" (.ref dc) (putF "program" (.ref g) [])))) = _
      kernel_rfl
    · rw [upd_ne (Ne.symm nrl)] at hle
      have z := s2.free hle
      rw [h1 _ (Ne.symm nrl)] at z
      exact z
    · rw [upd_ne (Ne.symm nrc), upd_ne (Ne.symm nrc), upd_ne (Ne.symm nrc), upd_ne ncl, upd_ne (Ne.symm nrc)]
      exact hdc2
    · rw [upd_ne (Ne.symm nrl), upd_ne (Ne.symm nrl), upd_ne (Ne.symm nrl), upd_same]
    · have z := s2 b o ((h1 b nb).trans e)
      have nl : b ≠ le := ne_of_none (o := o) ((upd_ne nb).trans z) hle
      rw [upd_ne nb, upd_ne nb, upd_ne nb, upd_ne nl, upd_ne nb]
      exact z
def spThrough (c : Cs) : Sp := fun vs H Q _ => ∃ (g : Addr) (a : PA) (p : Prog) (kvs : List (Key × V)) (os : List Addr) (e k n : Nat), vs = [.ref g, .int e, .int n] ∧ ProgAt c H g a p kvs os ∧ WF p ∧ p.starts[e]? = some k ∧ n ≤ 100 ∧
  ∀ (H' : Hp) (r dx dc le : Addr) (cnt fin : Int), Same H H' → H r = none → H' r = some (.ins c.run dx (runF g dc le cnt fin)) → H le = none → H' le = some (.lst ((Vakepa.run p [] k (Vakepa.valuesOf p n)).entered.map fun (k : Nat) => V.int (k : Int))) → (∀ x ∈ (Vakepa.run p [] k (Vakepa.valuesOf p n)).entered, x < p.parts.length) → (Vakepa.run p [] k (Vakepa.valuesOf p n)).entered.Nodup → Q (.ref r) H'
theorem scThrough : FnScope ["program", "entry", "assignment", "run"] ["program", "entry", "assignment"] (defScope s_run_through) := ⟨rfl, rfl, rfl, by decide +kernel, rfl, by decide +kernel, by decide +kernel⟩
theorem ok_through (T : RunT K mg c) (D : DefAt K mg "run_through" s_run_through) (AI : OkI P w K mg base CX0 2 c.run "Run" ["self", "program", "assignment"] (spRunI c)) (AE : OkM P w K mg base CX0 (lvE 9) c.run "enter" ["self", "part", "around"] (spEnter c 9)) :
    Ok P w K mg base CX0 84 "run_through" ["program", "entry", "assignment"] (spThrough c) := by
  refine Ok.mk' D (fun f fd F => (F.ok scThrough (fun vs H Q E h => ?_) (fun cdv A outer s H vs Q E hr h => ?_) : FnOk P w K mg base CX0 (83 + 1) f fd _ _)) (fun _ _ _ _ _ _ us hl => match us, hl with | [_, _, _], _ => rfl)
  · obtain ⟨g, a, p, kvs, os, e, k, n, rfl, _⟩ := h
    rfl
  · obtain ⟨g, a, p, kvs, os, e, k, n, rfl, PAt, W, he, hn, h⟩ := h
    have Tc := T.cs.run
    obtain ⟨gx, hg⟩ := PAt.obj
    refine ⟨_, pss_cons (ps_set (i := 3) scThrough.nd rfl (.inl rfl) (ci AI (hr.mono (by decide)) pass0 (pa_cons (pv 0) (pa_cons (pv 2) pa_nil))))
      (pss_cons (ps_fld (pv 3) (cm (pv 3) Tc.cl AE hr pass0 (pa_cons (pe_ix ix_list (pe_fld (pv 0) rfl) (pv 1) (fun _ _ => rfl)) (pa_cons pe_int pa_nil))) rfl)
      (pss_one (ps_ret (pv 3)))), ?_⟩
    refine ⟨_, rfl, _, rfl, fun r dx hr0 hdx hne => ⟨H, r, dx, g, a, p, kvs, os, n, rfl, upd_same, fun b o z => by rw [upd_ne (ne_of_none z hr0), upd_ne (ne_of_none z hdx)]; exact z, hr0, PAt, W, hn, fun H1 dc le hr1 hdc hle hdc1 hle1 fr => ⟨rfl, ?_⟩⟩⟩
    have nrc : r ≠ dc := ne_of_none upd_same hdc
    have nrl : r ≠ le := ne_of_none upd_same hle
    have ndc : dx ≠ dc := ne_of_none (o := .own r) ((upd_ne hne).trans upd_same) hdc
    have ndl : dx ≠ le := ne_of_none (o := .own r) ((upd_ne hne).trans upd_same) hle
    have hdc0 : H dc = none := by rw [upd_ne (Ne.symm nrc), upd_ne (Ne.symm ndc)] at hdc; exact hdc
    have hle0 : H le = none := by rw [upd_ne (Ne.symm nrl), upd_ne (Ne.symm ndl)] at hle; exact hle
    have ncl : dc ≠ le := ne_of hdc1 hle1 (by intro z; cases z)
    have s1 : Same H H1 := Same.made hr0 hdx fr
    -- what stands still while it runs
    have hk := W.est k (List.mem_of_getElem? he)
    let G : Hp := upd H dc (.dK (chosen p.sets (Vakepa.valuesOf p n)))
    have sHG : Same H G := Same.new hdc0
    have sG1 : Same G H1 := fun b o z => by
      by_cases q : b = dc
      · subst q
        have z : upd H b (.dK (chosen p.sets (Vakepa.valuesOf p n))) b = some o := z
        rw [upd_same] at z
        rw [hdc1]
        exact z
      · have z : upd H dc (.dK (chosen p.sets (Vakepa.valuesOf p n))) b = some o := z
        rw [upd_ne q] at z
        exact s1 b o z
    let x : Ro := ⟨r, dx, g, dc, le, a, p, Vakepa.valuesOf p n, kvs, os⟩
    have O : RunOk c G x := ⟨(upd_ne nrc).trans hr0, (upd_ne (Ne.symm ncl)).trans hle0, (upd_ne ndc).trans hdx, PAt.same sHG, upd_same, W, vals_ok W n⟩
    have R : RunAt c G H1 x ⟨[], 0⟩ := ⟨sG1, hr1, hle1, by show 0 ≤ 100; decide, Nat.zero_le _, fun _ z => (by cases z), List.nodup_nil⟩
    refine ⟨_, rfl, r, dx, _, rfl, hr1, runF_enter, _, rfl, g, c.prog, gx, _, _, rfl, s1 _ _ hg, T.cs.prog.cl, T.cs.prog.no _ (by decide), progF_e, _, rfl, a.le, _, _, _, rfl, rfl, SqL.of (s1 _ _ PAt.le), atI_nat (v := .int (k : Int)) (by rw [List.getElem?_map, he]; rfl), ?_⟩
    refine ⟨G, x, ⟨[], 0⟩, k, rfl, O, R, hk, fun H2 R2 fr2 => ?_⟩
    have hrun := (run_is (p := p) (v := Vakepa.valuesOf p n) k).1
    refine ⟨_, rfl, r, c.run, dx, _, rfl, R2.obj, Tc.cl, Tc.no _ (by decide), (by show 5 < 1000; decide), ?_⟩
    refine ⟨_, rfl, ?_⟩
    refine h _ r dx dc le _ _ (fun b o z => ?_) hr0 (upd_same.trans (congrArg (fun q => some (HO.ins c.run dx q)) runF_pute)) hle0 ?_ (by rw [hrun]; exact R2.lt) (by rw [hrun]; exact R2.nd)
    · rw [upd_ne (ne_of_none z hr0)]
      exact fr2 b o (s1 b o z) (ne_of_none z hr0) (ne_of_none z hle0)
    · rw [upd_ne (Ne.symm nrl), hrun]
      exact R2.en
end
end Pk
end
section
set_option Elab.async false
set_option linter.all false
set_option maxRecDepth 100000
set_option maxHeartbeats 4000000
namespace Pk
open PySem PySem.Spec PyProof.Rows L2
open Vakepa (Piece Part Prog Raw RawPart)
open VakepBase (PTok Toks PName RESERVED word tokEq)
/-! ### kinds -/
theorem toStr_word {s : String} (h : (toStr (word s) = Str.ofString s)) {b : By} : toStr b = Str.ofString s ↔ b = word s := by
  rw [← h]
  exact ⟨fun z => toStr_inj z, fun z => by rw [z]⟩
theorem sgl_ne {c : Nat} {s : Str} (h : s.cps.size ≠ 1) : (⟨#[c]⟩ : Str) ≠ s := fun z => h (by rw [← z]; rfl)
/-- a word of the language -/
theorem kind_word {t : VTok} {s : String} (h : toStr (word s) = Str.ofString s) (hr : RESERVED.contains (word s) = true) (h1 : (Str.ofString s).cps.size ≠ 1) (h2 : Str.ofString s ≠ "name") (h3 : Str.ofString s ≠ "number") (h4 : Str.ofString s ≠ "end") : (kindS t = Str.ofString s) ↔ tokEq t (.name (word s)) = true := by
  cases t with
  | name b =>
    show (if RESERVED.contains b = true then toStr b else ("name" : Str)) = _ ↔ (b == word s) = true
    by_cases q : RESERVED.contains b = true
    · rw [if_pos q, toStr_word h, beq_iff_eq]
    · rw [if_neg q, beq_iff_eq]
      exact ⟨fun z => absurd z.symm h2, fun z => absurd (by rw [z]; exact hr) q⟩
  | num n => exact ⟨fun z => absurd z.symm h3, fun z => by cases z⟩
  | sign c => exact ⟨fun z => absurd z (sgl_ne h1), fun z => by cases z⟩
  | last => exact ⟨fun z => absurd z.symm h4, fun z => by cases z⟩
theorem kind_sign {t : VTok} {c : Nat} {s : Str} (hs : s = ⟨#[c]⟩) : (kindS t = s) ↔ tokEq t (.sign c) = true := by
  subst hs
  have e1 : ∀ {z : Str}, z.cps.size ≠ 1 → z ≠ ⟨#[c]⟩ := fun {z} h q => h (by rw [q]; rfl)
  cases t with
  | name b =>
    refine ⟨fun z => ?_, fun z => by cases z⟩
    have z : (if RESERVED.contains b = true then toStr b else ("name" : Str)) = ⟨#[c]⟩ := z
    by_cases q : RESERVED.contains b = true
    · rw [if_pos q] at z
      have k : ∀ w ∈ RESERVED, (toStr w).cps.size ≠ 1 := by decide +kernel
      exact absurd z (e1 (k b (List.contains_iff_mem.mp q)))
    · rw [if_neg q] at z
      exact absurd z (e1 (by decide +kernel))
  | num n => exact ⟨fun z => absurd z (e1 (z := "number") (by decide +kernel)), fun z => by cases z⟩
  | sign d =>
    refine ⟨fun z => ?_, fun z => ?_⟩
    · have z : (⟨#[d]⟩ : Str) = ⟨#[c]⟩ := z
      have q : d = c := by
        have := congrArg (fun s => s.cps.toList) z
        simpa using this
      show (d == c) = true
      rw [q]
      exact beq_self_eq_true c
    · have q : d = c := beq_iff_eq.mp z
      show (⟨#[d]⟩ : Str) = _
      rw [q]
  | last => exact ⟨fun z => absurd z (e1 (z := "end") (by decide +kernel)), fun z => by cases z⟩
theorem kind_name {t : VTok} : (kindS t = "name") ↔ ∃ b, t = .name b ∧ RESERVED.contains b = false := by
  cases t with
  | name b =>
    refine ⟨fun z => ⟨b, rfl, ?_⟩, fun ⟨d, z, q⟩ => ?_⟩
    · have z : (if RESERVED.contains b = true then toStr b else ("name" : Str)) = "name" := z
      by_cases q : RESERVED.contains b = true
      · rw [if_pos q] at z
        have k : ∀ w ∈ RESERVED, toStr w ≠ "name" := by decide +kernel
        exact absurd z (k b (List.contains_iff_mem.mp q))
      · simpa using q
    · cases z
      show (if RESERVED.contains b = true then toStr b else ("name" : Str)) = "name"
      rw [if_neg (by rw [q]; decide)]
  | num n => exact ⟨fun z => absurd z (show ¬ (("number" : Str) = ("name" : Str)) by decide +kernel), fun ⟨d, z, _⟩ => by cases z⟩
  | sign c => exact ⟨fun z => absurd z (sgl_ne (by decide +kernel)), fun ⟨d, z, _⟩ => by cases z⟩
  | last => exact ⟨fun z => absurd z (by decide +kernel), fun ⟨d, z, _⟩ => by cases z⟩
theorem kind_number {t : VTok} : (kindS t = "number") ↔ ∃ n, t = .num n := by
  cases t with
  | name b =>
    refine ⟨fun z => ?_, fun ⟨d, z⟩ => by cases z⟩
    have z : (if RESERVED.contains b = true then toStr b else ("name" : Str)) = "number" := z
    by_cases q : RESERVED.contains b = true
    · rw [if_pos q] at z
      have k : ∀ w ∈ RESERVED, toStr w ≠ "number" := by decide +kernel
      exact absurd z (k b (List.contains_iff_mem.mp q))
    · rw [if_neg q] at z
      exact absurd z (by decide +kernel)
  | num n => exact ⟨fun _ => ⟨n, rfl⟩, fun _ => rfl⟩
  | sign c => exact ⟨fun z => absurd z (sgl_ne (by decide +kernel)), fun ⟨d, z⟩ => by cases z⟩
  | last => exact ⟨fun z => absurd z (by decide +kernel), fun ⟨d, z⟩ => by cases z⟩
theorem kind_end {t : VTok} : (kindS t = "end") ↔ t = .last := by
  cases t with
  | name b =>
    refine ⟨fun z => ?_, fun z => by cases z⟩
    have z : (if RESERVED.contains b = true then toStr b else ("name" : Str)) = "end" := z
    by_cases q : RESERVED.contains b = true
    · rw [if_pos q] at z
      have k : ∀ w ∈ RESERVED, toStr w ≠ "end" := by decide +kernel
      exact absurd z (k b (List.contains_iff_mem.mp q))
    · rw [if_neg q] at z
      exact absurd z (by decide +kernel)
  | num n => exact ⟨fun z => absurd z (show ¬ (("number" : Str) = ("end" : Str)) by decide +kernel), fun z => by cases z⟩
  | sign c => exact ⟨fun z => absurd z (sgl_ne (by decide +kernel)), fun z => by cases z⟩
  | last => exact ⟨fun _ => rfl, fun _ => rfl⟩
/-- the words -/
theorem kw {t : VTok} (s : String) (h : s ∈ ["set", "part", "size", "start", "say", "call", "make", "when", "is"]) : (kindS t = Str.ofString s) ↔ tokEq t (.name (word s)) = true := by
  have k : ∀ s ∈ ["set", "part", "size", "start", "say", "call", "make", "when", "is"], toStr (word s) = Str.ofString s ∧ RESERVED.contains (word s) = true ∧ (Str.ofString s).cps.size ≠ 1 ∧ Str.ofString s ≠ "name" ∧ Str.ofString s ≠ "number" ∧ Str.ofString s ≠ "end" := by decide +kernel
  obtain ⟨h1, h2, h3, h4, h5, h6⟩ := k s h
  exact kind_word h1 h2 h3 h4 h5 h6
/-! ### taking, in the specification's words -/
theorem endy_cons {t : PTok} {l : Toks} (h : Endy (t :: l)) (ht : t.tok ≠ .last) : Endy l := by
  cases l with
  | nil => exact absurd h ht
  | cons u r => exact h.2
theorem endy_ne {l : Toks} (h : Endy l) : ∃ t r, l = t :: r := by
  cases l with
  | nil => exact h.elim
  | cons t r => exact ⟨t, r, rfl⟩
theorem next_cons {q t : VTok} {p : Nat} {l : Toks} : VakepBase.next q (⟨p, t⟩ :: l) = tokEq t q := rfl
theorem takeWord_is {s : String} (h : s ∈ ["set", "part", "size", "start", "say", "call", "make", "when", "is"]) {t : PTok} {l : Toks} : VakepBase.takeWord s (t :: l) = if kindS t.tok = Str.ofString s then .ok l else .error ⟨3, t.place⟩ := by
  show (if tokEq t.tok (.name (word s)) = true then Except.ok l else _) = _
  by_cases q : kindS t.tok = Str.ofString s
  · rw [if_pos q, if_pos ((kw s h).mp q)]
  · rw [if_neg q, if_neg (fun z => q ((kw s h).mpr z))]
    rfl
theorem takeSign_is {s : Str} {c : Nat} (h : s = ⟨#[c]⟩) {t : PTok} {l : Toks} : VakepBase.takeSign c (t :: l) = if kindS t.tok = s then .ok l else .error ⟨3, t.place⟩ := by
  show (if tokEq t.tok (.sign c) = true then Except.ok l else _) = _
  by_cases q : kindS t.tok = s
  · rw [if_pos q, if_pos ((kind_sign h).mp q)]
  · rw [if_neg q, if_neg (fun z => q ((kind_sign h).mpr z))]
    rfl
theorem nextSign_is {s : Str} {c : Nat} (h : s = ⟨#[c]⟩) {t : PTok} {l : Toks} : VakepBase.next (.sign c) (t :: l) = decide (kindS t.tok = s) := by
  show tokEq t.tok (.sign c) = _
  by_cases q : kindS t.tok = s
  · rw [decide_eq_true q, (kind_sign h).mp q]
  · rw [decide_eq_false q]
    simpa using fun z => q ((kind_sign h).mpr z)
theorem nextWord_is {s : String} (h : s ∈ ["set", "part", "size", "start", "say", "call", "make", "when", "is"]) {t : PTok} {l : Toks} : VakepBase.nextWord s (t :: l) = decide (kindS t.tok = Str.ofString s) := by
  show tokEq t.tok (.name (word s)) = _
  by_cases q : kindS t.tok = Str.ofString s
  · rw [decide_eq_true q, (kw s h).mp q]
  · rw [decide_eq_false q]
    simpa using fun z => q ((kw s h).mpr z)
theorem takeName_ok {p : Nat} {b : By} {l : Toks} (h : RESERVED.contains b = false) : VakepBase.takeName (⟨p, .name b⟩ :: l) = .ok (⟨p, b⟩, l) := by
  show (if RESERVED.contains b = true then _ else _) = _
  rw [if_neg (by rw [h]; decide)]
theorem takeName_no {t : PTok} {l : Toks} (h : kindS t.tok ≠ "name") : VakepBase.takeName (t :: l) = .error ⟨3, t.place⟩ := by
  obtain ⟨p, t⟩ := t
  cases t with
  | name b =>
    have q : RESERVED.contains b = true := by
      cases q : RESERVED.contains b with
      | true => rfl
      | false => exact absurd (kind_name.mpr ⟨b, rfl, q⟩) h
    show (if RESERVED.contains b = true then _ else _) = _
    rw [if_pos q]
    rfl
  | num n => rfl
  | sign c => rfl
  | last => rfl
end Pk
end
section
set_option Elab.async false
set_option linter.all false
set_option maxRecDepth 100000
set_option maxHeartbeats 4000000
namespace Pk
open PySem PySem.Spec PyProof.Rows L2
open Vakepa (Piece Part Prog Raw RawPart)
open VakepBase (PTok Toks PName RESERVED word tokEq)
/-! ### the reader's state -/
structure RA where
  r : Addr
  dx : Addr
  t : Addr
  g : Addr
  ds : Addr
  dn : Addr
  lp : Addr
  le : Addr
  q : Addr
def RA.muts (x : RA) : List Addr := [x.r, x.ds, x.dn, x.lp, x.le, x.q]
structure RdS where
  l : Toks
  sets : List VSet
  kvs : List (Key × V)
  names : List By
  parts : List RawPart
  os : List Addr
  starts : List Nat
  called : List PName
def RawPartAt (c : Cs) (ss : List VSet) (G : Hp) (o : Addr) (x : RawPart) : Prop := ∃ (b : Addr) (xs : List V), ObjAt c.part G o (partF x.size b) ∧ G b = some (.lst xs) ∧ RawL c ss G x.body xs
def CalledAt (c : Cs) (G : Hp) (a : Addr) (n : PName) : Prop := RESERVED.contains n.name = false ∧ TokO c.tok G a ⟨n.place, .name n.name⟩
structure RdAt (c : Cs) (x : RA) (G H : Hp) (s : RdS) : Prop where
  sub : Same G H
  free : ∀ b ∈ x.muts, G b = none
  nd : x.muts.Nodup
  toks : ∃ (j : Nat) (as : List Addr) (all : Toks), H x.r = some (.ins c.reader x.dx (readerF x.t j x.g x.q)) ∧ G x.t = some (.lst (as.map V.ref)) ∧ All2 (TokO c.tok G) as all ∧ j ≤ all.length ∧ s.l = all.drop j
  prog : ObjAt c.prog G x.g (progF x.ds x.dn x.lp x.le)
  ds : H x.ds = some (.dK s.kvs)
  sets : All2 (SetAt G) s.kvs s.sets
  dn : H x.dn = some (.dK (numsFrom 0 s.names))
  lp : H x.lp = some (.lst (s.os.map V.ref))
  parts : All2 (RawPartAt c s.sets G) s.os s.parts
  le : H x.le = some (.lst (s.starts.map fun (k : Nat) => V.int (k : Int)))
  q : ∃ qs : List Addr, H x.q = some (.lst (qs.map V.ref)) ∧ All2 (CalledAt c G) qs s.called
  big : s.called.length + s.l.length ≤ 5000
/-- all but the reader's own things -/
def Fr (x : RA) (H H' : Hp) : Prop := (∀ b o, H b = some o → b ∉ x.muts → H' b = some o) ∧ ∀ b, H' b = none → H b = none
theorem Fr.refl {x : RA} {H : Hp} : Fr x H H := ⟨fun _ _ e _ => e, fun _ e => e⟩
theorem Fr.trans {x : RA} {H H1 H2 : Hp} (a : Fr x H H1) (b : Fr x H1 H2) : Fr x H H2 := ⟨fun c o e n => b.1 c o (a.1 c o e n) n, fun c e => a.2 c (b.2 c e)⟩
theorem Fr.of {x : RA} {H H' : Hp} (s : Same H H') : Fr x H H' := ⟨fun b o e _ => s b o e, fun _ e => s.free e⟩
/-- what is read comes beside -/
structure Ext (x : RA) (G H G' H' : Hp) : Prop where
  sub : Same G G'
  new : ∀ b o, G' b = some o → G b = some o ∨ H b = none
  fr : Fr x H H'
theorem Ext.of {x : RA} {G H H' : Hp} (f : Fr x H H') : Ext x G H G H' := ⟨Same.refl G, fun _ _ e => .inl e, f⟩
theorem Ext.trans {x : RA} {G H G1 H1 G2 H2 : Hp} (a : Ext x G H G1 H1) (b : Ext x G1 H1 G2 H2) : Ext x G H G2 H2 :=
  ⟨a.sub.trans b.sub, fun c o e => by
    rcases b.new c o e with q | q
    · exact a.new c o q
    · exact .inr (a.fr.2 c q), a.fr.trans b.fr⟩
def FX (c : Cs) (x : RA) (H : Hp) (E : XK) (code place : Nat) : Prop := ∀ (d : Addr) (H' : Hp), Fr x H H' → H' d = some (.xd (fxd (.int code) (.int place))) → E (.ref c.fault) (some d) H'
theorem FX.now {c : Cs} {x : RA} {H H1 : Hp} {E : XK} {code place : Nat} (h : FX c x H E code place) (s : Fr x H H1) {d : Addr} (hd : H1 d = none) : E (.ref c.fault) (some d) (upd H1 d (.xd (fxd (.int code) (.int place)))) :=
  h d _ (s.trans (Fr.of (Same.new hd))) upd_same
theorem FX.from {c : Cs} {x : RA} {H H1 : Hp} {E : XK} {code place : Nat} (h : FX c x H E code place) (s : Fr x H H1) : FX c x H1 E code place := fun d H' f e => h d H' (s.trans f) e
theorem readerF_t {t g q : Addr} {j : Int} : (readerF t j g q).lookup ("tokens" : Str) = some (.ref t) := by kernel_rfl
theorem readerF_at {t g q : Addr} {j : Int} : (readerF t j g q).lookup ("at" : Str) = some (.int j) := by kernel_rfl
theorem readerF_g {t g q : Addr} {j : Int} : (readerF t j g q).lookup ("program" : Str) = some (.ref g) := by kernel_rfl
theorem readerF_q {t g q : Addr} {j : Int} : (readerF t j g q).lookup ("called" : Str) = some (.ref q) := by kernel_rfl
theorem readerF_put {t g q : Addr} {j j' : Int} : putF "at" (.int j') (readerF t j g q) = readerF t j' g q := by kernel_rfl
def rdNames : List Str := ["kind_ahead", "take", "skip", "take_within", "take_size", "read_settings", "read_words", "read_parts", "read_part", "read_body", "read_statement", "read_call", "read_make", "read_when", "take_known", "read_entries", "check_calls"]
theorem readerF_no {t g q : Addr} {j : Int} {m : Str} (h : m ∈ rdNames) : (readerF t j g q).lookup m = none := by
  have k : ∀ m ∈ rdNames, (m == ("tokens" : Str)) = false ∧ (m == ("at" : Str)) = false ∧ (m == ("program" : Str)) = false ∧ (m == ("called" : Str)) = false := by decide +kernel
  obtain ⟨h1, h2, h3, h4⟩ := k m h
  exact (lk_past h1).trans ((lk_past h2).trans ((lk_past h3).trans ((lk_past h4).trans rfl)))
/-- one token further -/
def RdS.to (s : RdS) (l : Toks) : RdS := ⟨l, s.sets, s.kvs, s.names, s.parts, s.os, s.starts, s.called⟩
theorem RdAt.fwd {c : Cs} {x : RA} {G H : Hp} {s : RdS} {t : PTok} {l : Toks} (R : RdAt c x G H s) (h : s.l = t :: l) : ∃ (j : Nat) (as : List Addr) (p : Addr), H x.r = some (.ins c.reader x.dx (readerF x.t j x.g x.q)) ∧ G x.t = some (.lst (as.map V.ref)) ∧ as[j]? = some p ∧ TokO c.tok G p t ∧
    RdAt c x G (upd H x.r (.ins c.reader x.dx (readerF x.t ((j : Int) + 1) x.g x.q))) (s.to l) ∧ Fr x H (upd H x.r (.ins c.reader x.dx (readerF x.t ((j : Int) + 1) x.g x.q))) := by
  obtain ⟨j, as, all, h1, h2, h3, h4, h5⟩ := R.toks
  rw [h] at h5
  have hj : all[j]? = some t := by
    have q := congrArg (fun z => z[0]?) h5
    simpa using q.symm
  obtain ⟨p, hp, ht⟩ := h3.get hj
  have hl : l = all.drop (j + 1) := by
    have q := congrArg List.tail h5
    rw [List.tail_drop] at q
    exact q
  have nd := R.nd
  unfold RA.muts at nd
  simp only [List.nodup_cons, List.mem_cons, not_or, List.not_mem_nil, not_false_eq_true] at nd
  obtain ⟨⟨n1, n2, n3, n4, n5, _⟩, _⟩ := nd
  have hr : G x.r = none := R.free _ (by unfold RA.muts; simp)
  have hjl := (List.getElem?_eq_some_iff.mp hj).1
  have hb := R.big
  rw [h, List.length_cons] at hb
  refine ⟨j, as, p, h1, h2, hp, ht, ⟨fun b o e => ?_, R.free, R.nd, ⟨j + 1, as, all, ?_, h2, h3, hjl, hl⟩, R.prog, ?_, R.sets, ?_, ?_, R.parts, ?_, ?_, ?_⟩, fun b o e nb => ?_, fun b e => ?_⟩
  · rw [upd_ne (ne_of_none e hr)]
    exact R.sub b o e
  · rw [upd_same]
    rfl
  · rw [upd_ne (fun z => n1 z.symm)]
    exact R.ds
  · rw [upd_ne (fun z => n2 z.symm)]
    exact R.dn
  · rw [upd_ne (fun z => n3 z.symm)]
    exact R.lp
  · rw [upd_ne (fun z => n4 z.symm)]
    exact R.le
  · obtain ⟨qs, q1, q2⟩ := R.q
    exact ⟨qs, by rw [upd_ne (fun z => n5 z.symm)]; exact q1, q2⟩
  · show s.called.length + l.length ≤ 5000
    omega
  · rw [upd_ne (fun z => nb (by rw [z]; unfold RA.muts; simp))]
    exact e
  · by_cases z : b = x.r
    · rw [z, upd_same] at e
      cases e
    · rw [upd_ne z] at e
      exact e
section
variable {P : Program} {w : World} {K : PySem.W.Frag} {mg : Str → Option Value} {base : Heap} {c : Cs}
structure RdT (K : PySem.W.Frag) (mg : Str → Option Value) (c : Cs) (fF : Addr) : Prop where
  cs : CsT K c
  ft : PySem.FaultX.FTxt K mg c.fault fF
  len : mg "len" = none
  e3 : GI mg "NOT_ALLOWED" 3
  e4 : GI mg "TOO_MANY" 4
  e5 : GI mg "NAME_TWICE" 5
  e6 : GI mg "ENTRY_TWICE" 6
  e7 : GI mg "BAD_NUMBER" 7
  e8 : GI mg "UNKNOWN_NAME" 8
  e9 : GI mg "UNKNOWN_CALL" 9
  ms : GI mg "MOST_SETTINGS" 3
  mw : GI mg "MOST_WORDS" 4
  mp : GI mg "MOST_PARTS" 10
  me : GI mg "MOST_ENTRIES" 4
  mpi : GI mg "MOST_PIECES" 3
  mwa : GI mg "MOST_WHENS_AROUND" 2
  gsz : GI mg "GREATEST_SIZE" 99
/-! ### kind_ahead, take, skip -/
def spKind (c : Cs) : Sp := fun vs H Q _ => ∃ (x : RA) (G : Hp) (s : RdS) (t : PTok) (l : Toks), vs = [.ref x.r] ∧ RdAt c x G H s ∧ s.l = t :: l ∧ Q (.str (kindS t.tok)) H
theorem scKind : FnScope ["self"] ["self"] (defScope s_Reader_kind_ahead) := ⟨rfl, rfl, rfl, by decide +kernel, rfl, by decide +kernel, by decide +kernel⟩
theorem ok_kind {fF : Addr} (T : RdT K mg c fF) (D : MethAt K c.reader "kind_ahead" "Reader.kind_ahead" s_Reader_kind_ahead) : OkM P w K mg base CX0 1 c.reader "kind_ahead" ["self"] (spKind c) := by
  refine OkM.mk' D (fun f fd F => F.ok scKind (fun vs H Q E h => ?_) (fun cdv A outer s H vs Q E hr h => ?_)) (fun _ _ _ _ _ _ us hl => match us, hl with | [_], _ => rfl)
  · obtain ⟨x, G, s, t, l, rfl, _⟩ := h
    rfl
  · obtain ⟨x, G, s, t, l, rfl, R, hl, h⟩ := h
    obtain ⟨j, as, p, h1, h2, h3, ⟨af, tx, h4⟩, _⟩ := R.fwd hl
    have Tr := T.cs.reader
    exact ⟨_, pss_one (ps_ret (pe_fld (pe_ix ix_list (pe_fld (pv 0) rfl) (pe_fld (pv 0) rfl) (fun _ _ => rfl)) rfl)),
      ⟨_, rfl, x.r, c.reader, x.dx, _, _, rfl, h1, Tr.cl, Tr.no _ (by decide), readerF_t, _, rfl, x.r, c.reader, x.dx, _, _, rfl, h1, Tr.cl, Tr.no _ (by decide), readerF_at, x.t, _, _, _, rfl, rfl, SqL.of (R.sub _ _ h2), atI_nat (v := .ref p) (by rw [List.getElem?_map, h3]; rfl),
        p, c.tok, tx, _, _, rfl, R.sub _ _ h4, T.cs.tok.cl, T.cs.tok.kind, tokF_kind, h⟩⟩
def spTake (c : Cs) : Sp := fun vs H Q E => ∃ (x : RA) (G : Hp) (s : RdS) (t : PTok) (l : Toks) (kd : Str), vs = [.ref x.r, .str kd] ∧ RdAt c x G H s ∧ s.l = t :: l ∧
  (kindS t.tok = kd → ∀ H' p, RdAt c x G H' (s.to l) → Fr x H H' → TokO c.tok G p t → Q (.ref p) H') ∧ (kindS t.tok ≠ kd → FX c x H E 3 t.place)
theorem scTake : FnScope ["self", "kind", "token"] ["self", "kind"] (defScope s_Reader_take) := ⟨rfl, rfl, rfl, by decide +kernel, rfl, by decide +kernel, by decide +kernel⟩
theorem ok_take {fF : Addr} (T : RdT K mg c fF) (D : MethAt K c.reader "take" "Reader.take" s_Reader_take) : OkM P w K mg base (L2.CX P w) 2 c.reader "take" ["self", "kind"] (spTake c) := by
  refine OkM.mk' D (fun f fd F => F.okX scTake (fun vs H Q E h => ?_) (fun cdv A outer s H vs Q E hr h => ?_)) (fun _ _ _ _ _ _ us hl => match us, hl with | [_, _], _ => rfl)
  · obtain ⟨x, G, s, t, l, kd, rfl, _⟩ := h
    rfl
  · obtain ⟨x, G, s, t, l, kd, rfl, R, hl, k1, k2⟩ := h
    obtain ⟨j, as, p, h1, h2, h3, h4, R2, f2⟩ := R.fwd hl
    obtain ⟨af, tx, h5⟩ := h4
    have h5' := R.sub _ _ h5
    have Tr := T.cs.reader
    refine ⟨_, pss_cons (ps_set (i := 2) scTake.nd rfl (.inl rfl) (pe_ix ix_list (pe_fld (pv 0) rfl) (pe_fld (pv 0) rfl) (fun _ _ => rfl)))
      (pss_cons (ps_if (pt_cmpR op_ne (pe_fld (pv 2) rfl) (pv 1) (nomark _)) (pss_one (ps_raiseF rfl T.ft hr (takes_of rfl rfl rfl rfl) (by exact (pa_cons (gi T.e3) (pa_cons (pe_fld (pv 2) rfl) pa_nil))))) pss_nil)
      (pss_cons (ps_fldaug (pv 0) pe_int in_add)
      (pss_one (ps_ret (pv 2))))), ?_⟩
    refine ⟨_, rfl, x.r, c.reader, x.dx, _, _, rfl, h1, Tr.cl, Tr.no _ (by decide), readerF_t, _, rfl, x.r, c.reader, x.dx, _, _, rfl, h1, Tr.cl, Tr.no _ (by decide), readerF_at, x.t, _, _, _, rfl, rfl, SqL.of (R.sub _ _ h2), atI_nat (v := .ref p) (by rw [List.getElem?_map, h3]; rfl), ?_⟩
    refine ⟨_, rfl, p, c.tok, tx, _, _, rfl, h5', T.cs.tok.cl, T.cs.tok.kind, tokF_kind, _, rfl, rfl, _, rfl, ?_⟩
    refine itnd (fun q => ?_) (fun q => ?_)
    · have ne : kindS t.tok ≠ kd := fun z => q (by rw [z])
      exact ⟨_, rfl, p, c.tok, tx, _, _, rfl, h5', T.cs.tok.cl, T.cs.tok.place, tokF_place, _, _, rfl, fun d hd => FX.now (k2 ne) Fr.refl hd⟩
    · have e : kindS t.tok = kd := V.str.inj q
      refine ⟨_, rfl, x.r, c.reader, x.dx, _, _, rfl, h1, Tr.cl, Tr.no _ (by decide), readerF_at, _, _, rfl, rfl, _, _, h1, (by show 4 < 1000; decide), ?_⟩
      rw [readerF_put]
      exact ⟨_, rfl, k1 e _ p R2 f2 ⟨af, tx, h5⟩⟩
def spSkip (c : Cs) : Sp := fun vs H Q E => ∃ (x : RA) (G : Hp) (s : RdS) (t : PTok) (l : Toks) (kd : Str), vs = [.ref x.r, .str kd] ∧ RdAt c x G H s ∧ s.l = t :: l ∧
  (kindS t.tok = kd → ∀ H', RdAt c x G H' (s.to l) → Fr x H H' → Q (.bl true) H') ∧ (kindS t.tok ≠ kd → Q (.bl false) H)
theorem scSkip : FnScope ["self", "kind"] ["self", "kind"] (defScope s_Reader_skip) := ⟨rfl, rfl, rfl, by decide +kernel, rfl, by decide +kernel, by decide +kernel⟩
theorem ok_skip {fF : Addr} (T : RdT K mg c fF) (D : MethAt K c.reader "skip" "Reader.skip" s_Reader_skip) (A1 : OkM P w K mg base CX0 1 c.reader "kind_ahead" ["self"] (spKind c)) : OkM P w K mg base CX0 2 c.reader "skip" ["self", "kind"] (spSkip c) := by
  refine OkM.mk' D (fun f fd F => F.ok scSkip (fun vs H Q E h => ?_) (fun cdv A outer s H vs Q E hr h => ?_)) (fun _ _ _ _ _ _ us hl => match us, hl with | [_, _], _ => rfl)
  · obtain ⟨x, G, s, t, l, kd, rfl, _⟩ := h
    rfl
  · obtain ⟨x, G, s, t, l, kd, rfl, R, hl, k1, k2⟩ := h
    obtain ⟨j, as, p, h1, h2, h3, h4, R2, f2⟩ := R.fwd hl
    have Tr := T.cs.reader
    refine ⟨_, pss_cons (ps_if (pt_cmpR op_ne (cm0 (pv 0) Tr.cl A1 hr pass0) (pv 1) (nomark _)) (pss_one (ps_ret pe_bl)) pss_nil)
      (pss_cons (ps_fldaug (pv 0) pe_int in_add) (pss_one (ps_ret pe_bl))), ?_⟩
    refine ⟨_, rfl, x.r, x.dx, _, rfl, h1, readerF_no (by decide), x, G, s, t, l, rfl, R, hl, _, rfl, rfl, _, rfl, ?_⟩
    refine itnd (fun q => ?_) (fun q => ?_)
    · exact k2 fun z => q (by rw [z])
    · have e : kindS t.tok = kd := V.str.inj q
      refine ⟨_, rfl, x.r, c.reader, x.dx, _, _, rfl, h1, Tr.cl, Tr.no _ (by decide), readerF_at, _, _, rfl, rfl, _, _, h1, (by show 4 < 1000; decide), ?_⟩
      rw [readerF_put]
      exact k1 e _ R2 f2
def spWithin (c : Cs) : Sp := fun vs H Q E => ∃ (x : RA) (G : Hp) (s : RdS) (t : PTok) (l : Toks) (kd : Str) (told most : Nat), vs = [.ref x.r, .str kd, .int told, .int most] ∧ RdAt c x G H s ∧ s.l = t :: l ∧ told ≤ most ∧
  (kindS t.tok = kd → told < most → ∀ H' p, RdAt c x G H' (s.to l) → Fr x H H' → TokO c.tok G p t → Q (.ref p) H') ∧ (kindS t.tok ≠ kd → FX c x H E 3 t.place) ∧ (kindS t.tok = kd → most ≤ told → FX c x H E 4 t.place)
theorem scWithin : FnScope ["self", "kind", "told", "most", "token"] ["self", "kind", "told", "most"] (defScope s_Reader_take_within) := ⟨rfl, rfl, rfl, by decide +kernel, rfl, by decide +kernel, by decide +kernel⟩
theorem ok_within {fF : Addr} (T : RdT K mg c fF) (D : MethAt K c.reader "take_within" "Reader.take_within" s_Reader_take_within) (A1 : OkM P w K mg base (L2.CX P w) 2 c.reader "take" ["self", "kind"] (spTake c)) : OkM P w K mg base (L2.CX P w) 3 c.reader "take_within" ["self", "kind", "told", "most"] (spWithin c) := by
  refine OkM.mk' D (fun f fd F => F.okX scWithin (fun vs H Q E h => ?_) (fun cdv A outer s H vs Q E hr h => ?_)) (fun _ _ _ _ _ _ us hl => match us, hl with | [_, _, _, _], _ => rfl)
  · obtain ⟨x, G, s, t, l, kd, told, most, rfl, _⟩ := h
    rfl
  · obtain ⟨x, G, s, t, l, kd, told, most, rfl, R, hl, htm, k1, k2, k3⟩ := h
    have Tr := T.cs.reader
    obtain ⟨j, as, p0, h1, _⟩ := R.fwd hl
    refine ⟨_, pss_cons (ps_set (i := 4) scWithin.nd rfl (.inl rfl) (cm (pv 0) Tr.cl A1 hr pout (pa_cons (pv 1) pa_nil)))
      (pss_cons (ps_if (pt_cmpR op_eq (pv 2) (pv 3) (nomark _)) (pss_one (ps_raiseF rfl T.ft hr (takes_of rfl rfl rfl rfl) (by exact (pa_cons (gi T.e4) (pa_cons (pe_fld (pv 4) rfl) pa_nil))))) pss_nil)
      (pss_one (ps_ret (pv 4)))), ?_⟩
    refine ⟨_, rfl, x.r, x.dx, _, rfl, h1, readerF_no (by decide), _, rfl, x, G, s, t, l, kd, rfl, R, hl, fun e H1 p R1 f1 ht => ?_, fun ne => k2 ne⟩
    obtain ⟨af, tx, h5⟩ := ht
    refine ⟨_, rfl, _, rfl, rfl, _, rfl, ?_⟩
    refine ited (fun q => ?_) (fun q => ?_)
    · have z : told = most := by have z : (told : Int) = most := V.int.inj q; omega
      exact ⟨_, rfl, p, c.tok, tx, _, _, rfl, R1.sub _ _ h5, T.cs.tok.cl, T.cs.tok.place, tokF_place, _, _, rfl, fun d hd => FX.now (k3 e (by omega)) f1 hd⟩
    · have z : told < most := by
        have z : told ≠ most := fun z => q (by rw [z])
        omega
      exact ⟨_, rfl, k1 e z H1 p R1 f1 ⟨af, tx, h5⟩⟩
def spSize (c : Cs) : Sp := fun vs H Q E => ∃ (x : RA) (G : Hp) (s : RdS) (t : PTok) (l : Toks), vs = [.ref x.r] ∧ RdAt c x G H s ∧ s.l = t :: l ∧
  match Vakepa.takeNat 99 s.l with
  | .error f => FX c x H E f.code f.place
  | .ok (n, m) => ∀ H', RdAt c x G H' (s.to m) → Fr x H H' → Q (.int n) H'
theorem scSize : FnScope ["self", "token"] ["self"] (defScope s_Reader_take_size) := ⟨rfl, rfl, rfl, by decide +kernel, rfl, by decide +kernel, by decide +kernel⟩
theorem takeNat_no {t : PTok} {l : Toks} (h : kindS t.tok ≠ "number") : Vakepa.takeNat 99 (t :: l) = .error ⟨3, t.place⟩ := by
  obtain ⟨p, t⟩ := t
  cases t with
  | num n => exact absurd rfl h
  | name b => rfl
  | sign c => rfl
  | last => rfl
theorem ok_size {fF : Addr} (T : RdT K mg c fF) (D : MethAt K c.reader "take_size" "Reader.take_size" s_Reader_take_size) (A1 : OkM P w K mg base (L2.CX P w) 2 c.reader "take" ["self", "kind"] (spTake c)) : OkM P w K mg base (L2.CX P w) 3 c.reader "take_size" ["self"] (spSize c) := by
  refine OkM.mk' D (fun f fd F => F.okX scSize (fun vs H Q E h => ?_) (fun cdv A outer s H vs Q E hr h => ?_)) (fun _ _ _ _ _ _ us hl => match us, hl with | [_], _ => rfl)
  · obtain ⟨x, G, s, t, l, rfl, _⟩ := h
    rfl
  · obtain ⟨x, G, s, t, l, rfl, R, hl, h⟩ := h
    have Tr := T.cs.reader
    obtain ⟨j, as, p0, h1, _⟩ := R.fwd hl
    refine ⟨_, pss_cons (ps_set (i := 1) scSize.nd rfl (.inl rfl) (cm (pv 0) Tr.cl A1 hr pout (pa_cons pe_str pa_nil)))
      (pss_cons (ps_if (PW.pt (pw_or (pt_cmpR op_lt (pe_fld (pv 1) rfl) pe_int (nomark _)) (pw_or1 (pt_cmpR op_gt (pe_fld (pv 1) rfl) (gi T.gsz) (nomark _))))) (pss_one (ps_raiseF rfl T.ft hr (takes_of rfl rfl rfl rfl) (by exact (pa_cons (gi T.e7) (pa_cons (pe_fld (pv 1) rfl) pa_nil))))) pss_nil)
      (pss_one (ps_ret (pe_fld (pv 1) rfl)))), ?_⟩
    rw [hl] at h
    refine ⟨_, rfl, x.r, x.dx, _, rfl, h1, readerF_no (by decide), x, G, s, t, l, _, rfl, R, hl, fun e H1 p R1 f1 ht => ?_, fun ne => ?_⟩
    · obtain ⟨n, hn⟩ := kind_number.mp e
      obtain ⟨pl, tk⟩ := t
      have hn : tk = .num n := hn
      subst hn
      obtain ⟨af, tx, h5⟩ := ht
      have h5' : H1 p = some (.ins c.tok tx (tokF "number" pl af "" n)) := R1.sub _ _ h5
      unfold gName
      dsimp only
      refine sif (b := decide (n < 1) || decide (99 < n)) (ev_or (fun Q q => ⟨_, rfl, p, c.tok, tx, _, _, rfl, h5', T.cs.tok.cl, T.cs.tok.number, tokF_number, _, _, rfl, rfl, _, rfl, qb q (decide_eq_decide.mpr (by omega))⟩)
        (fun _ Q q => ⟨_, rfl, p, c.tok, tx, _, _, rfl, h5', T.cs.tok.cl, T.cs.tok.number, tokF_number, _, _, rfl, rfl, _, rfl, qb q (decide_eq_decide.mpr (by omega))⟩)) (fun hb => ?_) (fun hb => ?_)
      · have e2 : Vakepa.takeNat 99 (⟨pl, .num n⟩ :: l) = .error ⟨7, pl⟩ := by
          show (if n < 1 ∨ 99 < n then _ else _) = _
          rw [if_pos (by simpa using hb)]
        rw [e2] at h
        exact ⟨_, rfl, p, c.tok, tx, _, _, rfl, h5', T.cs.tok.cl, T.cs.tok.place, tokF_place, _, _, rfl, fun d hd => FX.now h f1 hd⟩
      · have e2 : Vakepa.takeNat 99 (⟨pl, .num n⟩ :: l) = .ok (n, l) := by
          show (if n < 1 ∨ 99 < n then _ else _) = _
          rw [if_neg (by simpa using hb)]
        rw [e2] at h
        exact ⟨_, rfl, p, c.tok, tx, _, _, rfl, h5', T.cs.tok.cl, T.cs.tok.number, tokF_number, h H1 R1 f1⟩
    · rw [takeNat_no ne] at h
      exact h
end
end Pk
end
section
set_option Elab.async false
set_option linter.all false
set_option maxRecDepth 100000
set_option maxHeartbeats 4000000
namespace Pk
open PySem PySem.Spec PyProof.Rows L2
open Vakepa (Piece Part Prog Raw RawPart)
open VakepBase (PTok Toks PName RESERVED word tokEq)
section
variable {c : Cs} {x : RA} {G H : Hp} {s : RdS}
theorem RdAt.tracked (R : RdAt c x G H s) {b : Addr} (h : b ∈ x.muts) : ∃ o, H b = some o := by
  unfold RA.muts at h
  simp only [List.mem_cons, List.not_mem_nil, or_false] at h
  obtain ⟨_, _, _, h1, _⟩ := R.toks
  obtain ⟨_, q1, _⟩ := R.q
  rcases h with rfl | rfl | rfl | rfl | rfl | rfl
  · exact ⟨_, h1⟩
  · exact ⟨_, R.ds⟩
  · exact ⟨_, R.dn⟩
  · exact ⟨_, R.lp⟩
  · exact ⟨_, R.le⟩
  · exact ⟨_, q1⟩
theorem RdAt.notMut (R : RdAt c x G H s) {b : Addr} (h : H b = none) : b ∉ x.muts := fun m => by
  obtain ⟨o, e⟩ := R.tracked m
  rw [e] at h
  cases h
theorem RdAt.other (R : RdAt c x G H s) {b : Addr} {o : HO} (hb : b ∉ x.muts) (hG : G b = none) : RdAt c x G (upd H b o) s := by
  have k : ∀ a ∈ x.muts, upd H b o a = H a := fun a m => upd_ne (fun z => hb (by rw [← z]; exact m))
  obtain ⟨j, as, all, h1, h2⟩ := R.toks
  obtain ⟨qs, q1, q2⟩ := R.q
  exact ⟨fun a u e => by rw [upd_ne (ne_of_none e hG)]; exact R.sub a u e, R.free, R.nd, ⟨j, as, all, by rw [k _ (by unfold RA.muts; simp)]; exact h1, h2⟩, R.prog, by rw [k _ (by unfold RA.muts; simp)]; exact R.ds, R.sets,
    by rw [k _ (by unfold RA.muts; simp)]; exact R.dn, by rw [k _ (by unfold RA.muts; simp)]; exact R.lp, R.parts, by rw [k _ (by unfold RA.muts; simp)]; exact R.le, ⟨qs, by rw [k _ (by unfold RA.muts; simp)]; exact q1, q2⟩, R.big⟩
theorem RdAt.grow {H' : Hp} (R : RdAt c x G H s) (e : Same H H') : RdAt c x G H' s := by
  obtain ⟨j, as, all, h1, h2⟩ := R.toks
  obtain ⟨qs, q1, q2⟩ := R.q
  exact ⟨R.sub.trans e, R.free, R.nd, ⟨j, as, all, e _ _ h1, h2⟩, R.prog, e _ _ R.ds, R.sets, e _ _ R.dn, e _ _ R.lp, R.parts, e _ _ R.le, ⟨qs, e _ _ q1, q2⟩, R.big⟩
theorem RawPartAt.same {ss : List VSet} {H H' : Hp} (e : Same H H') {o : Addr} {p : RawPart} (h : RawPartAt c ss H o p) : RawPartAt c ss H' o p := by
  obtain ⟨b, xs, h1, h2, h3⟩ := h
  exact ⟨b, xs, h1.same e, e _ _ h2, h3.same e⟩
/-- more is read than stood in G -/
theorem RdAt.ext {G' : Hp} (R : RdAt c x G H s) (e : Same G G') (sub : Same G' H) (free : ∀ b ∈ x.muts, G' b = none) : RdAt c x G' H s := by
  obtain ⟨j, as, all, h1, h2, h3, h4⟩ := R.toks
  obtain ⟨qs, q1, q2⟩ := R.q
  exact ⟨sub, free, R.nd, ⟨j, as, all, h1, e _ _ h2, h3.imp fun _ _ q => q.same e, h4⟩, R.prog.same e, R.ds, R.sets.imp fun _ _ q => q.same e, R.dn, R.lp, R.parts.imp fun _ _ q => q.same e, R.le, ⟨qs, q1, q2.imp fun _ _ q => ⟨q.1, q.2.same e⟩⟩, R.big⟩
/-- a new thing, into what is read -/
theorem RdAt.add {b : Addr} {o : HO} (R : RdAt c x G H s) (h : H b = some o) (hb : b ∉ x.muts) (hG : G b = none) : RdAt c x (upd G b o) H s :=
  R.ext (Same.new hG) (fun a u e => by
    by_cases z : a = b
    · rw [z, upd_same] at e
      rw [z, h, ← e]
    · rw [upd_ne z] at e
      exact R.sub a u e) (fun a m => by rw [upd_ne (fun z => hb (by rw [← z]; exact m))]; exact R.free a m)
theorem Fr.other {H1 : Hp} {b : Addr} {o : HO} (f : Fr x H H1) (hb : H b = none) : Fr x H (upd H1 b o) := ⟨fun a u e n => by rw [upd_ne (ne_of_none e hb)]; exact f.1 a u e n, fun a e => by
  by_cases z : a = b
  · rw [z, upd_same] at e
    cases e
  · rw [upd_ne z] at e
    exact f.2 a e⟩
theorem RdAt.obj (R : RdAt c x G H s) : ∃ j : Int, H x.r = some (.ins c.reader x.dx (readerF x.t j x.g x.q)) := by
  obtain ⟨j, _, _, h, _⟩ := R.toks
  exact ⟨_, h⟩
theorem RdS.to_to {l m : Toks} : (s.to l).to m = s.to m := rfl
end
section
variable {P : Program} {w : World} {K : PySem.W.Frag} {mg : Str → Option Value} {base : Heap} {c : Cs}
/-! ### take_known -/
def knownEnds (c : Cs) (x : RA) (G H : Hp) (s : RdS) (known : By → Bool) (Q : VK) (E : XK) : Prop := match VakepBase.takeName s.l with
  | .error f => FX c x H E f.code f.place
  | .ok (n, m) => if known n.name = true then ∀ H', RdAt c x G H' (s.to m) → Fr x H H' → Q (.str (toStr n.name)) H' else FX c x H E 8 n.place
def spKnown (c : Cs) : Sp := fun vs H Q E => ∃ (x : RA) (G : Hp) (s : RdS) (t : PTok) (l : Toks) (nm : Addr) (known : By → Bool), vs = [.ref x.r, .ref nm] ∧ RdAt c x G H s ∧ s.l = t :: l ∧
  ((nm = x.ds ∧ known = fun b => (s.sets.findIdx? fun z => z.name == b).isSome) ∨ ∃ vals : List By, G nm = some (.lst (vals.map sV)) ∧ known = fun b => vals.contains b) ∧ knownEnds c x G H s known Q E
theorem scKnown : FnScope ["self", "names", "token"] ["self", "names"] (defScope s_Reader_take_known) := ⟨rfl, rfl, rfl, by decide +kernel, rfl, by decide +kernel, by decide +kernel⟩
theorem sV_in (b : By) (l : List By) : inV (sV b) (l.map sV) = l.contains b := by
  unfold inV
  rw [List.any_map]
  induction l with
  | nil => rfl
  | cons a r ih =>
    rw [List.any_cons, List.contains_cons, ih]
    congr 1
    show (toStr a == toStr b) = (b == a)
    by_cases e : a = b
    · subst e
      rw [beq_self_eq_true, beq_self_eq_true]
    · rw [beq_false_of_ne (fun z => e (toStr_inj z)), beq_false_of_ne (fun z => e z.symm)]
theorem sV_flat (l : List By) : (l.map sV).all flatV = true := by
  rw [List.all_map, List.all_eq_true]
  intro k _
  rfl
theorem name_text {b : By} (h : RESERVED.contains b = false) : textS (.name b) = toStr b := by
  show (if RESERVED.contains b = true then _ else _) = _
  rw [if_neg (by rw [h]; decide)]
theorem ok_known {fF : Addr} (T : RdT K mg c fF) (D : MethAt K c.reader "take_known" "Reader.take_known" s_Reader_take_known) (A1 : OkM P w K mg base (L2.CX P w) 2 c.reader "take" ["self", "kind"] (spTake c)) : OkM P w K mg base (L2.CX P w) 3 c.reader "take_known" ["self", "names"] (spKnown c) := by
  refine OkM.mk' D (fun f fd F => F.okX scKnown (fun vs H Q E h => ?_) (fun cdv A outer s0 H vs Q E hr h => ?_)) (fun _ _ _ _ _ _ us hl => match us, hl with | [_, _], _ => rfl)
  · obtain ⟨x, G, s, t, l, nm, known, rfl, _⟩ := h
    rfl
  · obtain ⟨x, G, s, t, l, nm, known, rfl, R, hl, hk, h⟩ := h
    have Tr := T.cs.reader
    have hu := hu_of hr
    obtain ⟨j, h1⟩ := R.obj
    unfold knownEnds at h
    rw [hl] at h
    rcases hk with ⟨rfl, rfl⟩ | ⟨vals, hv, rfl⟩
    · refine ⟨_, pss_cons (ps_set (i := 2) scKnown.nd rfl (.inl rfl) (cm (pv 0) Tr.cl A1 hr pout (pa_cons pe_str pa_nil)))
        (pss_cons (ps_if (pt_cmp (pc_dnotin hu (pe_fld (pv 2) rfl) (pv 1)) (by rfl)) (pss_one (ps_raiseF rfl T.ft hr (takes_of rfl rfl rfl rfl) (by exact (pa_cons (gi T.e8) (pa_cons (pe_fld (pv 2) rfl) pa_nil))))) pss_nil)
        (pss_one (ps_ret (pe_fld (pv 2) rfl)))), ?_⟩
      refine ⟨_, rfl, x.r, x.dx, _, rfl, h1, readerF_no (by decide), x, G, s, t, l, _, rfl, R, hl, fun e H1 p R1 f1 ht => ?_, fun ne => ?_⟩
      · obtain ⟨b, hb, hres⟩ := kind_name.mp e
        obtain ⟨pl, tk⟩ := t
        have hb : tk = .name b := hb
        subst hb
        obtain ⟨af, tx, h5⟩ := ht
        have h5 := R1.sub _ _ h5
        rw [takeName_ok hres] at h
        have tt : (tokF (kindS (.name b)) pl af (textS (.name b)) (numS (.name b))).lookup ("text" : Str) = some (.str (toStr b)) := by rw [name_text hres]; exact tokF_text
        refine ⟨_, rfl, p, c.tok, tx, _, _, rfl, h5, T.cs.tok.cl, T.cs.tok.text, tt, _, rfl, x.ds, _, rfl, DGet.k (k := kS b) R1.ds, _, rfl, ?_⟩
        have sv := sets_val b R1.sets
        cases q : s.sets.findIdx? fun z => z.name == b with
        | none =>
          have q' : ((s.to l).sets.findIdx? fun z => z.name == b) = none := q
          rw [q'] at sv
          have sv : valV s.kvs (kS b) = none := sv
          have sv2 : valV (s.to l).kvs (kS b) = none := sv
          rw [sv2]
          refine iteT ?_
          have h : (if (s.sets.findIdx? fun z => z.name == b).isSome = true then _ else FX c x H E 8 pl) := h
          rw [q, if_neg (by decide)] at h
          exact ⟨_, rfl, p, c.tok, tx, _, _, rfl, h5, T.cs.tok.cl, T.cs.tok.place, tokF_place, _, _, rfl, fun d hd => FX.now h f1 hd⟩
        | some k =>
          have q' : ((s.to l).sets.findIdx? fun z => z.name == b) = some k := q
          rw [q'] at sv
          obtain ⟨a, st, _, _, sv, _⟩ := sv
          rw [sv]
          refine iteF ?_
          have h : (if (s.sets.findIdx? fun z => z.name == b).isSome = true then ∀ H', RdAt c x G H' (s.to l) → Fr x H H' → Q (.str (toStr b)) H' else FX c x H E 8 pl) := h
          rw [q, if_pos (show (some k).isSome = true from rfl)] at h
          exact ⟨_, rfl, p, c.tok, tx, _, _, rfl, h5, T.cs.tok.cl, T.cs.tok.text, tt, h H1 R1 f1⟩
      · rw [takeName_no ne] at h
        exact h
    · refine ⟨_, pss_cons (ps_set (i := 2) scKnown.nd rfl (.inl rfl) (cm (pv 0) Tr.cl A1 hr pout (pa_cons pe_str pa_nil)))
        (pss_cons (ps_if (pt_cmpR op_notIn_seq (pe_fld (pv 2) rfl) (pv 1) (by rfl)) (pss_one (ps_raiseF rfl T.ft hr (takes_of rfl rfl rfl rfl) (by exact (pa_cons (gi T.e8) (pa_cons (pe_fld (pv 2) rfl) pa_nil))))) pss_nil)
        (pss_one (ps_ret (pe_fld (pv 2) rfl)))), ?_⟩
      refine ⟨_, rfl, x.r, x.dx, _, rfl, h1, readerF_no (by decide), x, G, s, t, l, _, rfl, R, hl, fun e H1 p R1 f1 ht => ?_, fun ne => ?_⟩
      · obtain ⟨b, hb, hres⟩ := kind_name.mp e
        obtain ⟨pl, tk⟩ := t
        have hb : tk = .name b := hb
        subst hb
        obtain ⟨af, tx, h5⟩ := ht
        have h5 := R1.sub _ _ h5
        rw [takeName_ok hres] at h
        have tt : (tokF (kindS (.name b)) pl af (textS (.name b)) (numS (.name b))).lookup ("text" : Str) = some (.str (toStr b)) := by rw [name_text hres]; exact tokF_text
        refine ⟨_, rfl, p, c.tok, tx, _, _, rfl, h5, T.cs.tok.cl, T.cs.tok.text, tt, _, rfl, nm, _, rfl, .inl (SqL.of (R1.sub _ _ hv)), rfl, sV_flat _, _, rfl, ?_⟩
        have h : (if vals.contains b = true then ∀ H', RdAt c x G H' (s.to l) → Fr x H H' → Q (.str (toStr b)) H' else FX c x H E 8 pl) := h
        have iv : inV (.str (toStr b)) (vals.map sV) = vals.contains b := sV_in b vals
        rw [if_pos rfl, iv]
        cases q : vals.contains b with
        | false =>
          refine iteT ?_
          rw [q, if_neg (by decide)] at h
          exact ⟨_, rfl, p, c.tok, tx, _, _, rfl, h5, T.cs.tok.cl, T.cs.tok.place, tokF_place, _, _, rfl, fun d hd => FX.now h f1 hd⟩
        | true =>
          refine iteF ?_
          rw [q, if_pos rfl] at h
          exact ⟨_, rfl, p, c.tok, tx, _, _, rfl, h5, T.cs.tok.cl, T.cs.tok.text, tt, h H1 R1 f1⟩
      · rw [takeName_no ne] at h
        exact h
end
end Pk
end
section
set_option Elab.async false
set_option linter.all false
set_option maxRecDepth 100000
set_option maxHeartbeats 4000000
namespace Pk
open PySem PySem.Spec PyProof.Rows L2
open Vakepa (Piece Part Prog Raw RawPart)
open VakepBase (PTok Toks PName RESERVED word tokEq)
section
variable {P : Program} {w : World} {K : PySem.W.Frag} {mg : Str → Option Value} {base : Heap} {c : Cs}
/-! ### read_words -/
def wordsEnds (c : Cs) (x : RA) (G H : Hp) (s : RdS) (r : Except VakepBase.Fault (List By × Toks)) (Q : VK) (E : XK) : Prop := match r with
  | .error f => FX c x H E f.code f.place
  | .ok (ws, m) => Endy m → m.length < s.l.length → ∀ H' p, RdAt c x G H' (s.to m) → Fr x H H' → H p = none → H' p = some (.lst (ws.map sV)) → Q (.ref p) H'
def spWordsR (c : Cs) : Sp := fun vs H Q E => ∃ (x : RA) (G : Hp) (s : RdS), vs = [.ref x.r] ∧ RdAt c x G H s ∧ Endy s.l ∧ wordsEnds c x G H s (Vakepa.takeValues (s.l.length + 1) [] s.l) Q E
theorem scWordsR : FnScope ["self", "words", "more", "token"] ["self"] (defScope s_Reader_read_words) := ⟨rfl, rfl, rfl, by decide +kernel, rfl, by decide +kernel, by decide +kernel⟩
theorem takeValues_no {n : Nat} {vs : List By} {t : PTok} {l : Toks} (h : kindS t.tok ≠ "name") : Vakepa.takeValues (n + 1) vs (t :: l) = .error ⟨3, t.place⟩ := by
  rw [Vakepa.takeValues, takeName_no h]
  rfl
theorem takeValues_ok {n : Nat} {vs : List By} {p : Nat} {b : By} {t : PTok} {l : Toks} (h : RESERVED.contains b = false) : Vakepa.takeValues (n + 1) vs (⟨p, .name b⟩ :: t :: l) =
    if 4 ≤ vs.length then .error ⟨4, p⟩ else if vs.contains b = true then .error ⟨5, p⟩ else if kindS t.tok = "," then Vakepa.takeValues n (vs ++ [b]) l else (VakepBase.takeSign 59 (t :: l)).map fun m => (vs ++ [b], m) := by
  rw [Vakepa.takeValues, takeName_ok h]
  show (if 4 ≤ vs.length then Except.error ⟨4, p⟩ else if vs.contains b = true then Except.error ⟨5, p⟩ else if VakepBase.next (.sign 44) (t :: l) = true then Vakepa.takeValues n (vs ++ [b]) l else (VakepBase.takeSign 59 (t :: l)).map fun m => (vs ++ [b], m)) = _
  rw [nextSign_is (s := ",") (by decide +kernel)]
  by_cases q : kindS t.tok = ","
  · rw [decide_eq_true q, if_pos q, if_pos rfl]
  · rw [decide_eq_false q, if_neg q, if_neg Bool.false_ne_true]
theorem ok_wordsR {fF : Addr} (T : RdT K mg c fF) (D : MethAt K c.reader "read_words" "Reader.read_words" s_Reader_read_words) (A1 : OkM P w K mg base (L2.CX P w) 2 c.reader "take" ["self", "kind"] (spTake c))
    (A2 : OkM P w K mg base (L2.CX P w) 3 c.reader "take_within" ["self", "kind", "told", "most"] (spWithin c)) (A3 : OkM P w K mg base CX0 2 c.reader "skip" ["self", "kind"] (spSkip c)) : OkM P w K mg base (L2.CX P w) 4 c.reader "read_words" ["self"] (spWordsR c) := by
  refine OkM.mk' D (fun f fd F => F.okX scWordsR (fun vs H Q E h => ?_) (fun cdv A outer s0 H vs Q E hr h => ?_)) (fun _ _ _ _ _ _ us hl => match us, hl with | [_], _ => rfl)
  · obtain ⟨x, G, s, rfl, _⟩ := h
    rfl
  · obtain ⟨x, G, s, rfl, R, hen, h⟩ := h
    have Tr := T.cs.reader
    have hr2 : Room 2 _ := hr.mono (by decide)
    refine ⟨_, pss_cons (ps_set (i := 1) scWordsR.nd rfl (.inl rfl) (pe_lst pa_nil))
      (pss_cons (ps_set (i := 2) scWordsR.nd rfl (.inl rfl) pe_bl)
      (pss_cons (ps_while (passes_of rfl) (pt_val (pv 2))
        (pss_cons (ps_set (i := 3) scWordsR.nd rfl (.inl rfl) (cm (pv 0) Tr.cl A2 hr pout (pa_cons pe_str (pa_cons (pe_callB call_len_seq (by rfl) T.len PySem.boot_len (pa_cons (pv 1) pa_nil)) (pa_cons (gi T.mw) pa_nil)))))
        (pss_cons (ps_if (pt_cmpR op_in_seq (pe_fld (pv 3) rfl) (pv 1) (by rfl)) (pss_one (ps_raiseF rfl T.ft hr (takes_of rfl rfl rfl rfl) (by exact (pa_cons (gi T.e5) (pa_cons (pe_fld (pv 3) rfl) pa_nil))))) pss_nil)
        (pss_cons (ps_expr (pe_bm PySem.F.plainAttrs_list PySem.F.slot_list_append PySem.F.type_list_append mt_append (pv 1) (pa_cons (pe_fld (pv 3) rfl) pa_nil)))
        (pss_one (ps_set (i := 2) scWordsR.nd rfl (.inl rfl) (cm (pv 0) Tr.cl A3 hr2 pass0 (pa_cons pe_str pa_nil))))))))
      (pss_cons (ps_expr (cm (pv 0) Tr.cl A1 hr2 pout (pa_cons pe_str pa_nil)))
      (pss_one (ps_ret (pv 1)))))), ?_⟩
    have hsz : sizeLine = 16777216 := sizeLine_eq
    refine ⟨Nat.zero_le _, fun wl hwl => ?_⟩
    have nm := R.notMut hwl
    have hGw : G wl = none := R.sub.free hwl
    refine wh (fun m σ H' => ∃ (more : Bool) (tok : Option V) (vs : List By) (l' : Toks) (n : Nat), σ = [some (.ref x.r), some (.ref wl), some (.bl more), tok] ∧ RdAt c x G H' (s.to l') ∧ Fr x H H' ∧ H' wl = some (.lst (vs.map sV)) ∧ Endy l' ∧ vs.length ≤ 4 ∧ l'.length ≤ s.l.length ∧ l'.length < n ∧ (more = false → l'.length < s.l.length) ∧
        Vakepa.takeValues (s.l.length + 1) [] s.l = (if more = true then Vakepa.takeValues n vs l' else (VakepBase.takeSign 59 l').map fun m => (vs, m)) ∧ m = 2 * l'.length + (if more = true then 1 else 0))
      (fun σ H' => ∃ (tok : Option V) (vs : List By) (l' : Toks), σ = [some (.ref x.r), some (.ref wl), some (.bl false), tok] ∧ RdAt c x G H' (s.to l') ∧ Fr x H H' ∧ H' wl = some (.lst (vs.map sV)) ∧ Endy l' ∧ l'.length < s.l.length ∧
        Vakepa.takeValues (s.l.length + 1) [] s.l = (VakepBase.takeSign 59 l').map fun m => (vs, m)) _
      ⟨true, none, [], s.l, s.l.length + 1, rfl, R.other nm hGw, Fr.refl.other hwl, upd_same, hen, by decide, Nat.le_refl _, by omega, (fun z => by cases z), by rw [if_pos rfl], rfl⟩ ?_ ?_
    · rintro σ H' ⟨tok, vs, l', rfl, R1, f1, hw1, hen1, hlt, e1⟩
      obtain ⟨t, l, rfl⟩ := endy_ne hen1
      obtain ⟨j, h1⟩ := R1.obj
      rw [takeSign_is (s := ";") (by decide +kernel)] at e1
      refine ⟨_, rfl, x.r, x.dx, _, rfl, h1, readerF_no (by decide), x, G, _, t, l, _, rfl, R1, rfl, fun e H2 p R2 f2 ht => ?_, fun ne => ?_⟩
      · rw [if_pos e] at e1
        rw [e1] at h
        have ne : t.tok ≠ .last := fun z => by rw [z] at e; exact absurd e (by decide +kernel)
        exact ⟨_, rfl, h (endy_cons hen1 ne) (by rw [List.length_cons] at hlt; omega) H2 wl R2 (f1.trans f2) hwl (f2.1 _ _ hw1 nm)⟩
      · rw [if_neg ne] at e1
        rw [e1] at h
        exact FX.from h f1
    · rintro fin m σ H' ⟨more, tok, vs, l', n, rfl, R1, f1, hw1, hen1, hv4, hll, hn, hml, e1, rfl⟩
      refine ⟨_, rfl, more, rfl, ?_⟩
      refine itb (fun hm => ⟨_, fun _ _ z => z, ?_⟩) (fun hm => ?_)
      · subst hm
        rw [if_pos rfl] at e1
        obtain ⟨t, l, rfl⟩ := endy_ne hen1
        obtain ⟨j, h1⟩ := R1.obj
        obtain ⟨n, rfl⟩ : ∃ k, n = k + 1 := ⟨n - 1, by rw [List.length_cons] at hn; omega⟩
        have hlc : (List.map sV vs).length = vs.length := List.length_map ..
        refine ⟨_, rfl, x.r, x.dx, _, rfl, h1, readerF_no (by decide), _, rfl, _, _, rfl, .inl (SqL.of hw1), ?_⟩
        refine ⟨x, G, _, t, l, _, vs.length, 4, by rw [hlc]; rfl, R1, rfl, hv4, fun e hlt H2 p R2 f2 ht => ?_, fun ne => ?_, fun e hge => ?_⟩
        · obtain ⟨b, hb, hres⟩ := kind_name.mp e
          obtain ⟨pl, tk⟩ := t
          have hb : tk = .name b := hb
          subst hb
          have hen2 : Endy l := endy_cons hen1 (by intro z; cases z)
          obtain ⟨t2, l2, rfl⟩ := endy_ne hen2
          rw [takeValues_ok hres, if_neg (by omega)] at e1
          obtain ⟨af, tx, h5⟩ := ht
          have h5 := R2.sub _ _ h5
          have tt : (tokF (kindS (.name b)) pl af (textS (.name b)) (numS (.name b))).lookup ("text" : Str) = some (.str (toStr b)) := by rw [name_text hres]; exact tokF_text
          have hw2 := f2.1 _ _ hw1 nm
          refine ⟨_, rfl, p, c.tok, tx, _, _, rfl, h5, T.cs.tok.cl, T.cs.tok.text, tt, _, rfl, wl, _, rfl, .inl (SqL.of hw2), rfl, sV_flat _, _, rfl, ?_⟩
          have iv : inV (.str (toStr b)) (vs.map sV) = vs.contains b := sV_in b vs
          rw [if_neg Bool.false_ne_true, iv]
          refine itb (fun hc => ?_) (fun hc => ?_)
          · rw [if_pos hc] at e1
            rw [e1] at h
            exact ⟨_, rfl, p, c.tok, tx, _, _, rfl, h5, T.cs.tok.cl, T.cs.tok.place, tokF_place, _, _, rfl, fun d hd => FX.now h (f1.trans f2) hd⟩
          · rw [if_neg (by rw [hc]; decide)] at e1
            refine ⟨_, rfl, .inl ⟨rfl, _, SqL.of hw2⟩, _, rfl, p, c.tok, tx, _, _, rfl, h5, T.cs.tok.cl, T.cs.tok.text, tt, wl, _, _, rfl, rfl, hw2, (by rw [hlc]; omega), ?_⟩
            have R3 := R2.other (o := .lst (vs.map sV ++ [V.str (toStr b)])) nm hGw
            have f3 := (f1.trans f2).other (o := .lst (vs.map sV ++ [V.str (toStr b)])) hwl
            obtain ⟨j3, h3⟩ := R3.obj
            have hw3 : upd H2 wl (.lst (vs.map sV ++ [V.str (toStr b)])) wl = some (.lst ((vs ++ [b]).map sV)) := by rw [upd_same, List.map_append]; rfl
            have hvl : (vs ++ [b]).length ≤ 4 := by rw [List.length_append, List.length_singleton]; omega
            have hlen1 : (t2 :: l2).length < s.l.length := by rw [List.length_cons] at hll; omega
            refine ⟨_, rfl, x.r, x.dx, _, rfl, h3, readerF_no (by decide), x, G, _, t2, l2, _, rfl, R3, rfl, fun e2 H4 R4 f4 => ?_, fun ne2 => ?_⟩
            · rw [if_pos e2] at e1
              have hen3 : Endy l2 := endy_cons hen2 (fun z => by rw [z] at e2; exact absurd e2 (by decide +kernel))
              have nl : t2.tok ≠ .last := fun z => by rw [z] at e2; exact absurd e2 (by decide +kernel)
              refine ⟨_, ?_, true, some (.ref p), vs ++ [b], l2, n, rfl, R4, f3.trans f4, f4.1 _ _ hw3 nm, hen3, hvl, by rw [List.length_cons] at hlen1; omega, by rw [List.length_cons, List.length_cons] at hn; omega, (fun z => by cases z), by rw [if_pos rfl]; exact e1, rfl⟩
              rw [List.length_cons, List.length_cons, if_pos rfl]
              omega
            · rw [if_neg ne2] at e1
              refine ⟨_, ?_, false, some (.ref p), vs ++ [b], t2 :: l2, n + 1, rfl, R3, f3, hw3, hen2, hvl, by omega, by rw [List.length_cons] at hn; omega, fun _ => hlen1, by rw [if_neg Bool.false_ne_true]; exact e1, rfl⟩
              rw [if_neg Bool.false_ne_true, if_pos rfl]
              rw [List.length_cons (a := (⟨pl, .name b⟩ : PTok))]
              omega
        · rw [takeValues_no ne] at e1
          rw [e1] at h
          exact FX.from h f1
        · obtain ⟨b, hb, hres⟩ := kind_name.mp e
          obtain ⟨pl, tk⟩ := t
          have hb : tk = .name b := hb
          subst hb
          obtain ⟨t2, l2, rfl⟩ := endy_ne (endy_cons hen1 (by intro z; cases z))
          rw [takeValues_ok hres, if_pos hge] at e1
          rw [e1] at h
          exact FX.from h f1
      · subst hm
        rw [if_neg Bool.false_ne_true] at e1
        exact fin _ _ ⟨tok, vs, l', rfl, R1, f1, hw1, hen1, hml rfl, e1⟩
end
end Pk
end
section
set_option Elab.async false
set_option linter.all false
set_option maxRecDepth 100000
set_option maxHeartbeats 4000000
namespace Pk
open PySem PySem.Spec PyProof.Rows L2
open Vakepa (Piece Part Prog Raw RawPart)
open VakepBase (PTok Toks PName RESERVED word tokEq)
/-! ### statements, one by one, as they are read -/
inductive Item where
  | say (k : Nat)
  | call (p : PName)
  | make (ps : List Piece)
  | when_ (x v : Nat) (b : Raw)
def link : Item → Raw → Raw
  | .say k, r => .say k r
  | .call p, r => .call p r
  | .make ps, r => .make ps r
  | .when_ x v b, r => .when_ x v b r
def callsOf : Raw → List PName
  | .done => []
  | .say _ r => callsOf r
  | .call p r => p :: callsOf r
  | .make _ r => callsOf r
  | .when_ _ _ b r => callsOf b ++ callsOf r
def callsI : Item → List PName
  | .call p => [p]
  | .when_ _ _ b => callsOf b
  | _ => []
theorem callsOf_link (i : Item) (r : Raw) : callsOf (link i r) = callsI i ++ callsOf r := by
  cases i <;> rfl
def takeOne (ss : List VSet) (n d : Nat) (l : Toks) : Except VakepBase.Fault (Item × Toks) :=
  if VakepBase.nextWord "say" l = true then (Vakepa.takeNat 99 (l.drop 1)).bind fun k => (VakepBase.takeSign 59 k.2).map fun r => (.say k.1, r)
  else if VakepBase.nextWord "call" l = true then (VakepBase.takeName (l.drop 1)).bind fun p => (VakepBase.takeSign 59 p.2).map fun r => (.call p.1, r)
  else if VakepBase.nextWord "make" l = true then (Vakepa.takePieces ss (l.length + 1) [] (l.drop 1)).map fun p => (.make p.1, p.2)
  else (VakepBase.takeWord "when" l).bind fun r => if 3 ≤ d then .error ⟨4, VakepBase.here l⟩ else (VakepBase.takeName r).bind fun x => match ss.findIdx? fun s => s.name == x.1.name with
      | none => .error ⟨8, x.1.place⟩
      | some k => (VakepBase.takeWord "is" x.2).bind fun r => (VakepBase.takeName r).bind fun v => match ((ss[k]?).map fun s => s.values).bind fun vs => vs.findIdx? fun y => y == v.1.name with
        | none => .error ⟨8, v.1.place⟩
        | some j => (VakepBase.takeSign 123 v.2).bind fun r => (Vakepa.takeStmts ss n (d + 1) r).map fun b => (.when_ k j b.1, b.2)
theorem exc_bind_map {α β γ : Type} (e : Except VakepBase.Fault α) (f : α → β) (g : β → Except VakepBase.Fault γ) : (e.map f).bind g = e.bind fun a => g (f a) := by
  cases e <;> rfl
theorem exc_bind_bind {α β γ : Type} (e : Except VakepBase.Fault α) (f : α → Except VakepBase.Fault β) (g : β → Except VakepBase.Fault γ) : (e.bind f).bind g = e.bind fun a => (f a).bind g := by
  cases e <;> rfl
theorem exc_bind_congr {α β : Type} {e : Except VakepBase.Fault α} {f g : α → Except VakepBase.Fault β} (h : ∀ a, f a = g a) : e.bind f = e.bind g := by
  cases e with
  | error x => rfl
  | ok a => exact h a
theorem takeStmts_one (ss : List VSet) (n d : Nat) (l : Toks) : Vakepa.takeStmts ss (n + 1) d l = if VakepBase.next (.sign 125) l = true then .ok (.done, l.drop 1) else (takeOne ss n d l).bind fun i => (Vakepa.takeStmts ss n d i.2).map fun x => (link i.1 x.1, x.2) := by
  rw [Vakepa.takeStmts]
  unfold takeOne
  by_cases h0 : VakepBase.next (.sign 125) l = true
  · rw [if_pos h0, if_pos h0]
  · rw [if_neg h0, if_neg h0]
    by_cases h1 : VakepBase.nextWord "say" l = true
    · rw [if_pos h1, if_pos h1, exc_bind_bind]
      exact exc_bind_congr fun k => by rw [exc_bind_map]; rfl
    · rw [if_neg h1, if_neg h1]
      by_cases h2 : VakepBase.nextWord "call" l = true
      · rw [if_pos h2, if_pos h2, exc_bind_bind]
        exact exc_bind_congr fun k => by rw [exc_bind_map]; rfl
      · rw [if_neg h2, if_neg h2]
        by_cases h3 : VakepBase.nextWord "make" l = true
        · rw [if_pos h3, if_pos h3, exc_bind_map]
          rfl
        · rw [if_neg h3, if_neg h3, exc_bind_bind]
          refine exc_bind_congr fun r => ?_
          by_cases h4 : 3 ≤ d
          · rw [if_pos (show Vakepa.DEEP ≤ d from h4), if_pos h4]
            rfl
          · rw [if_neg (show ¬ Vakepa.DEEP ≤ d from h4), if_neg h4, exc_bind_bind]
            refine exc_bind_congr fun x => ?_
            cases ss.findIdx? fun s => s.name == x.1.name with
            | none => rfl
            | some k =>
              show (VakepBase.takeWord "is" x.2).bind _ = ((VakepBase.takeWord "is" x.2).bind _).bind _
              rw [exc_bind_bind]
              refine exc_bind_congr fun r2 => ?_
              rw [exc_bind_bind]
              refine exc_bind_congr fun v => ?_
              cases ((ss[k]?).map fun s => s.values).bind fun vs => vs.findIdx? fun y => y == v.1.name with
              | none => rfl
              | some j =>
                show (VakepBase.takeSign 123 v.2).bind _ = ((VakepBase.takeSign 123 v.2).bind _).bind _
                rw [exc_bind_bind]
                refine exc_bind_congr fun r3 => ?_
                rw [exc_bind_map]
                rfl
/-- the object of a statement -/
def ItemAt (c : Cs) (ss : List VSet) (G : Hp) (o : Addr) : Item → Prop
  | .say k => ObjAt c.say G o (sayF k)
  | .call p => ObjAt c.call G o (callF (toStr p.name))
  | .make ps => ∃ q : Addr, ObjAt c.make G o (makeF q) ∧ G q = some (.lst (ps.map fun z => sV (pieceName ss z)))
  | .when_ x v b => ∃ (q : Addr) (zs : List V), ObjAt c.when_ G o (whenF (toStr (setName ss x)) (toStr (setWord ss x v)) q) ∧ G q = some (.lst zs) ∧ RawL c ss G b zs
theorem ItemAt.same {c : Cs} {ss : List VSet} {G G' : Hp} (e : Same G G') {o : Addr} {i : Item} (h : ItemAt c ss G o i) : ItemAt c ss G' o i := by
  cases i with
  | say k => exact ObjAt.same e h
  | call p => exact ObjAt.same e h
  | make ps =>
    obtain ⟨q, h1, h2⟩ := h
    exact ⟨q, h1.same e, e _ _ h2⟩
  | when_ x v b =>
    obtain ⟨q, zs, h1, h2, h3⟩ := h
    exact ⟨q, zs, h1.same e, e _ _ h2, h3.same e⟩
theorem raw_cons {c : Cs} {ss : List VSet} {G : Hp} {o : Addr} {i : Item} {r : Raw} {xs : List V} (h1 : ItemAt c ss G o i) (h2 : RawL c ss G r xs) : RawL c ss G (link i r) (.ref o :: xs) := by
  cases i with
  | say k => exact ⟨o, xs, rfl, h1, h2⟩
  | call p => exact ⟨o, xs, rfl, h1, h2⟩
  | make ps =>
    obtain ⟨q, k1, k2⟩ := h1
    exact ⟨o, q, xs, rfl, k1, k2, h2⟩
  | when_ x v b =>
    obtain ⟨q, zs, k1, k2, k3⟩ := h1
    exact ⟨o, q, zs, xs, rfl, k1, k2, k3, h2⟩
def RdS.wc (s : RdS) (l : Toks) (cs : List PName) : RdS := ⟨l, s.sets, s.kvs, s.names, s.parts, s.os, s.starts, cs⟩
section
variable {c : Cs} {x : RA} {G H : Hp} {s : RdS}
theorem RdAt.made {H3 : Hp} {o dx C : Addr} {fs : List (Str × V)} (R : RdAt c x G H s) (ho : H o = none) (h3 : H3 o = some (.ins C dx fs)) (sm : Same H H3) : RdAt c x (upd G o (.ins C dx fs)) H3 s :=
  (R.grow sm).add h3 (R.notMut ho) (R.sub.free ho)
theorem Ext.put {G' H' H'' : Hp} {b : Addr} {o : HO} (E : Ext x G H G' H') (hb : H b = none) (hG : G b = none) (f : Fr x H H'') : Ext x G H (upd G' b o) H'' :=
  ⟨fun a u e => by rw [upd_ne (ne_of_none e hG)]; exact E.sub a u e, fun a u e => by
    by_cases z : a = b
    · rw [z]
      exact .inr hb
    · rw [upd_ne z] at e
      exact E.new a u e, f⟩
end
theorem pieceOf_name (ss : List VSet) (b : By) : pieceName ss (Vakepa.pieceOf ss b) = b := by
  unfold Vakepa.pieceOf
  cases q : ss.findIdx? fun s => s.name == b with
  | none => rfl
  | some k =>
    obtain ⟨h1, h2, _⟩ := List.findIdx?_eq_some_iff_getElem.mp q
    show ((ss[k]?).map fun s => s.name).getD [] = b
    rw [List.getElem?_eq_getElem h1]
    exact beq_iff_eq.mp h2
theorem takePieces_no {ss : List VSet} {n : Nat} {ps : List Piece} {t : PTok} {l : Toks} (h : kindS t.tok ≠ "name") : Vakepa.takePieces ss (n + 1) ps (t :: l) = .error ⟨3, t.place⟩ := by
  rw [Vakepa.takePieces, takeName_no h]
  rfl
theorem takePieces_ok {ss : List VSet} {n : Nat} {ps : List Piece} {p : Nat} {b : By} {t : PTok} {l : Toks} (h : RESERVED.contains b = false) : Vakepa.takePieces ss (n + 1) ps (⟨p, .name b⟩ :: t :: l) =
    if 3 ≤ ps.length then .error ⟨4, p⟩ else if kindS t.tok = "+" then Vakepa.takePieces ss n (ps ++ [Vakepa.pieceOf ss b]) l else (VakepBase.takeSign 59 (t :: l)).map fun m => (ps ++ [Vakepa.pieceOf ss b], m) := by
  rw [Vakepa.takePieces, takeName_ok h]
  show (if 3 ≤ ps.length then Except.error ⟨4, p⟩ else if VakepBase.next (.sign 43) (t :: l) = true then Vakepa.takePieces ss n (ps ++ [Vakepa.pieceOf ss b]) l else (VakepBase.takeSign 59 (t :: l)).map fun m => (ps ++ [Vakepa.pieceOf ss b], m)) = _
  rw [nextSign_is (s := "+") (by decide +kernel)]
  by_cases q : kindS t.tok = "+"
  · rw [decide_eq_true q, if_pos q, if_pos rfl]
  · rw [decide_eq_false q, if_neg q, if_neg Bool.false_ne_true]
section
variable {P : Program} {w : World} {K : PySem.W.Frag} {mg : Str → Option Value} {base : Heap} {c : Cs}
/-! ### read_make -/
def itemEnds (c : Cs) (x : RA) (G H : Hp) (s : RdS) (r : Except VakepBase.Fault (Item × Toks)) (Q : VK) (E : XK) : Prop := match r with
  | .error f => FX c x H E f.code f.place
  | .ok (i, m) => ∀ (G' H' : Hp) (o : Addr), Ext x G H G' H' → RdAt c x G' H' (s.wc m (s.called ++ callsI i)) → Endy m → m.length < s.l.length → ItemAt c s.sets G' o i → Q (.ref o) H'
def spMakeR (c : Cs) : Sp := fun vs H Q E => ∃ (x : RA) (G : Hp) (s : RdS) (t : PTok) (l : Toks), vs = [.ref x.r] ∧ RdAt c x G H s ∧ Endy s.l ∧ s.l = t :: l ∧ kindS t.tok = "make" ∧
  itemEnds c x G H s ((Vakepa.takePieces s.sets (s.l.length + 1) [] l).map fun p => (.make p.1, p.2)) Q E
theorem scMakeR : FnScope ["self", "pieces", "more", "token"] ["self"] (defScope s_Reader_read_make) := ⟨rfl, rfl, rfl, by decide +kernel, rfl, by decide +kernel, by decide +kernel⟩
theorem ok_makeR {fF : Addr} (T : RdT K mg c fF) (D : MethAt K c.reader "read_make" "Reader.read_make" s_Reader_read_make) (A1 : OkM P w K mg base (L2.CX P w) 2 c.reader "take" ["self", "kind"] (spTake c))
    (A2 : OkM P w K mg base (L2.CX P w) 3 c.reader "take_within" ["self", "kind", "told", "most"] (spWithin c)) (A3 : OkM P w K mg base CX0 2 c.reader "skip" ["self", "kind"] (spSkip c)) (A4 : OkI P w K mg base CX0 1 c.make "Make" ["self", "pieces"] (spI c.make (mk1 "pieces") 1)) :
    OkM P w K mg base (L2.CX P w) 4 c.reader "read_make" ["self"] (spMakeR c) := by
  refine OkM.mk' D (fun f fd F => F.okX scMakeR (fun vs H Q E h => ?_) (fun cdv A outer s0 H vs Q E hr h => ?_)) (fun _ _ _ _ _ _ us hl => match us, hl with | [_], _ => rfl)
  · obtain ⟨x, G, s, t, l, rfl, _⟩ := h
    rfl
  · obtain ⟨x, G, s, t0, l0, rfl, R, hen, hl0, hk0, h⟩ := h
    have Tr := T.cs.reader
    have hr2 : Room 2 _ := hr.mono (by decide)
    refine ⟨_, pss_cons (ps_expr (cm (pv 0) Tr.cl A1 hr2 pout (pa_cons pe_str pa_nil)))
      (pss_cons (ps_set (i := 1) scMakeR.nd rfl (.inl rfl) (pe_lst pa_nil))
      (pss_cons (ps_set (i := 2) scMakeR.nd rfl (.inl rfl) pe_bl)
      (pss_cons (ps_while (passes_of rfl) (pt_val (pv 2))
        (pss_cons (ps_set (i := 3) scMakeR.nd rfl (.inl rfl) (cm (pv 0) Tr.cl A2 hr pout (pa_cons pe_str (pa_cons (pe_callB call_len_seq (by rfl) T.len PySem.boot_len (pa_cons (pv 1) pa_nil)) (pa_cons (gi T.mpi) pa_nil)))))
        (pss_cons (ps_expr (pe_bm PySem.F.plainAttrs_list PySem.F.slot_list_append PySem.F.type_list_append mt_append (pv 1) (pa_cons (pe_fld (pv 3) rfl) pa_nil)))
        (pss_one (ps_set (i := 2) scMakeR.nd rfl (.inl rfl) (cm (pv 0) Tr.cl A3 hr2 pass0 (pa_cons pe_str pa_nil)))))))
      (pss_cons (ps_expr (cm (pv 0) Tr.cl A1 hr2 pout (pa_cons pe_str pa_nil)))
      (pss_one (ps_ret (ci A4 hr2 pass0 (pa_cons (pv 1) pa_nil)))))))), ?_⟩
    have hsz : sizeLine = 16777216 := sizeLine_eq
    obtain ⟨j0, h0⟩ := R.obj
    refine ⟨_, rfl, x.r, x.dx, _, rfl, h0, readerF_no (by decide), x, G, s, t0, l0, _, rfl, R, hl0, fun _ H0 p0 R0 f0 _ => ?_, fun ne => absurd hk0 ne⟩
    have hen0 : Endy l0 := by
      rw [hl0] at hen
      exact endy_cons hen (fun z => by rw [z] at hk0; exact absurd hk0 (by decide +kernel))
    have hll0 : s.l.length = l0.length + 1 := by rw [hl0, List.length_cons]
    refine ⟨Nat.zero_le _, fun wl hwl => ?_⟩
    have nm := R0.notMut hwl
    have hGw : G wl = none := R0.sub.free hwl
    have hHw : H wl = none := f0.2 _ hwl
    refine wh (fun m σ H' => ∃ (more : Bool) (tok : Option V) (bs : List By) (l' : Toks) (n : Nat), σ = [some (.ref x.r), some (.ref wl), some (.bl more), tok] ∧ RdAt c x G H' (s.to l') ∧ Fr x H H' ∧ H' wl = some (.lst (bs.map sV)) ∧ Endy l' ∧ bs.length ≤ 3 ∧ l'.length ≤ l0.length ∧ l'.length < n ∧
        Vakepa.takePieces s.sets (s.l.length + 1) [] l0 = (if more = true then Vakepa.takePieces s.sets n (bs.map (Vakepa.pieceOf s.sets)) l' else (VakepBase.takeSign 59 l').map fun m => (bs.map (Vakepa.pieceOf s.sets), m)) ∧ m = 2 * l'.length + (if more = true then 1 else 0))
      (fun σ H' => ∃ (tok : Option V) (bs : List By) (l' : Toks), σ = [some (.ref x.r), some (.ref wl), some (.bl false), tok] ∧ RdAt c x G H' (s.to l') ∧ Fr x H H' ∧ H' wl = some (.lst (bs.map sV)) ∧ Endy l' ∧ l'.length ≤ l0.length ∧
        Vakepa.takePieces s.sets (s.l.length + 1) [] l0 = (VakepBase.takeSign 59 l').map fun m => (bs.map (Vakepa.pieceOf s.sets), m)) _
      ⟨true, none, [], l0, s.l.length + 1, rfl, R0.other nm hGw, f0.other hHw, upd_same, hen0, by decide, Nat.le_refl _, by omega, by rw [if_pos rfl]; rfl, rfl⟩ ?_ ?_
    · rintro σ H' ⟨tok, bs, l', rfl, R1, f1, hw1, hen1, hlt, e1⟩
      obtain ⟨t, l, rfl⟩ := endy_ne hen1
      obtain ⟨j, h1⟩ := R1.obj
      rw [takeSign_is (s := ";") (by decide +kernel)] at e1
      refine ⟨_, rfl, x.r, x.dx, _, rfl, h1, readerF_no (by decide), x, G, _, t, l, _, rfl, R1, rfl, fun e H2 p R2 f2 ht => ?_, fun ne => ?_⟩
      · rw [if_pos e] at e1
        rw [e1] at h
        have ne : t.tok ≠ .last := fun z => by rw [z] at e; exact absurd e (by decide +kernel)
        have hw2 := f2.1 _ _ hw1 nm
        refine ⟨_, rfl, fun o dx ho hdx hne => ⟨o, dx, [.ref wl], rfl, rfl, upd_same, fun H3 h3 fr => ⟨rfl, ?_⟩⟩⟩
        have sm : Same H2 H3 := Same.made ho hdx fr
        have hwo : wl ≠ o := ne_of_none hw2 ho
        have R3 : RdAt c x (upd G wl (.lst (bs.map sV))) H2 (s.to l) := RdAt.add (s := s.to l) R2 hw2 nm hGw
        have R4 := R3.made ho h3 sm
        have f3 := f1.trans f2
        have f4 : Fr x H H3 := f3.trans (Fr.of sm)
        have hHo : H o = none := f3.2 _ ho
        have hGo : G o = none := R.sub.free hHo
        refine h _ H3 o (Ext.put (o := .ins c.make dx (makeF wl)) (Ext.put (o := .lst (bs.map sV)) (Ext.of f3) hHw hGw f4) hHo hGo f4) ?_ (endy_cons hen1 ne) (by show l.length < s.l.length; rw [List.length_cons] at hlt; omega) ⟨wl, ⟨dx, upd_same⟩, ?_⟩
        · have z : s.called ++ callsI (Item.make (bs.map (Vakepa.pieceOf s.sets))) = s.called := List.append_nil _
          rw [z]
          exact R4
        · rw [upd_ne hwo, upd_same, List.map_map]
          refine congrArg (fun q => some (HO.lst q)) (List.map_congr_left fun b _ => ?_)
          show sV b = sV (pieceName s.sets (Vakepa.pieceOf s.sets b))
          rw [pieceOf_name]
      · rw [if_neg ne] at e1
        rw [e1] at h
        exact FX.from h f1
    · rintro fin m σ H' ⟨more, tok, bs, l', n, rfl, R1, f1, hw1, hen1, hv4, hll, hn, e1, rfl⟩
      refine ⟨_, rfl, more, rfl, ?_⟩
      refine itb (fun hm => ⟨_, fun _ _ z => z, ?_⟩) (fun hm => ?_)
      · subst hm
        rw [if_pos rfl] at e1
        obtain ⟨t, l, rfl⟩ := endy_ne hen1
        obtain ⟨j, h1⟩ := R1.obj
        obtain ⟨n, rfl⟩ : ∃ k, n = k + 1 := ⟨n - 1, by rw [List.length_cons] at hn; omega⟩
        have hlc : (List.map sV bs).length = bs.length := List.length_map ..
        have hlp : (List.map (Vakepa.pieceOf s.sets) bs).length = bs.length := List.length_map ..
        refine ⟨_, rfl, x.r, x.dx, _, rfl, h1, readerF_no (by decide), _, rfl, _, _, rfl, .inl (SqL.of hw1), ?_⟩
        refine ⟨x, G, _, t, l, _, bs.length, 3, by rw [hlc]; rfl, R1, rfl, hv4, fun e hlt H2 p R2 f2 ht => ?_, fun ne => ?_, fun e hge => ?_⟩
        · obtain ⟨b, hb, hres⟩ := kind_name.mp e
          obtain ⟨pl, tk⟩ := t
          have hb : tk = .name b := hb
          subst hb
          have hen2 : Endy l := endy_cons hen1 (by intro z; cases z)
          obtain ⟨t2, l2, rfl⟩ := endy_ne hen2
          rw [takePieces_ok hres, if_neg (by rw [hlp]; omega)] at e1
          obtain ⟨af, tx, h5⟩ := ht
          have h5 := R2.sub _ _ h5
          have tt : (tokF (kindS (.name b)) pl af (textS (.name b)) (numS (.name b))).lookup ("text" : Str) = some (.str (toStr b)) := by rw [name_text hres]; exact tokF_text
          have hw2 := f2.1 _ _ hw1 nm
          refine ⟨_, rfl, .inl ⟨rfl, _, SqL.of hw2⟩, _, rfl, p, c.tok, tx, _, _, rfl, h5, T.cs.tok.cl, T.cs.tok.text, tt, wl, _, _, rfl, rfl, hw2, (by rw [hlc]; omega), ?_⟩
          have R3 := R2.other (o := .lst (bs.map sV ++ [V.str (toStr b)])) nm hGw
          have f3 := (f1.trans f2).other (o := .lst (bs.map sV ++ [V.str (toStr b)])) hHw
          obtain ⟨j3, h3⟩ := R3.obj
          have hw3 : upd H2 wl (.lst (bs.map sV ++ [V.str (toStr b)])) wl = some (.lst ((bs ++ [b]).map sV)) := by rw [upd_same, List.map_append]; rfl
          have hvl : (bs ++ [b]).length ≤ 3 := by rw [List.length_append, List.length_singleton]; omega
          have hpe : bs.map (Vakepa.pieceOf s.sets) ++ [Vakepa.pieceOf s.sets b] = (bs ++ [b]).map (Vakepa.pieceOf s.sets) := by rw [List.map_append]; rfl
          rw [hpe] at e1
          have hlen1 : (t2 :: l2).length ≤ l0.length := by rw [List.length_cons] at hll; omega
          refine ⟨_, rfl, x.r, x.dx, _, rfl, h3, readerF_no (by decide), x, G, _, t2, l2, _, rfl, R3, rfl, fun e2 H4 R4 f4 => ?_, fun ne2 => ?_⟩
          · rw [if_pos e2] at e1
            have hen3 : Endy l2 := endy_cons hen2 (fun z => by rw [z] at e2; exact absurd e2 (by decide +kernel))
            refine ⟨_, ?_, true, some (.ref p), bs ++ [b], l2, n, rfl, R4, f3.trans f4, f4.1 _ _ hw3 nm, hen3, hvl, by rw [List.length_cons] at hlen1; omega, by rw [List.length_cons, List.length_cons] at hn; omega, by rw [if_pos rfl]; exact e1, rfl⟩
            rw [List.length_cons, List.length_cons, if_pos rfl]
            omega
          · rw [if_neg ne2] at e1
            refine ⟨_, ?_, false, some (.ref p), bs ++ [b], t2 :: l2, n + 1, rfl, R3, f3, hw3, hen2, hvl, by omega, by rw [List.length_cons] at hn; omega, by rw [if_neg Bool.false_ne_true]; exact e1, rfl⟩
            rw [if_neg Bool.false_ne_true, if_pos rfl]
            rw [List.length_cons (a := (⟨pl, .name b⟩ : PTok))]
            omega
        · rw [takePieces_no ne] at e1
          rw [e1] at h
          exact FX.from h f1
        · obtain ⟨b, hb, hres⟩ := kind_name.mp e
          obtain ⟨pl, tk⟩ := t
          have hb : tk = .name b := hb
          subst hb
          obtain ⟨t2, l2, rfl⟩ := endy_ne (endy_cons hen1 (by intro z; cases z))
          rw [takePieces_ok hres, if_pos (by rw [hlp]; exact hge)] at e1
          rw [e1] at h
          exact FX.from h f1
      · subst hm
        rw [if_neg Bool.false_ne_true] at e1
        exact fin _ _ ⟨tok, bs, l', rfl, R1, f1, hw1, hen1, hll, e1⟩
end
end Pk
end
section
set_option Elab.async false
set_option linter.all false
set_option maxRecDepth 100000
set_option maxHeartbeats 4000000
namespace Pk
open PySem PySem.Spec PyProof.Rows L2
open Vakepa (Piece Part Prog Raw RawPart)
open VakepBase (PTok Toks PName RESERVED word tokEq)
section
variable {c : Cs} {x : RA} {G H : Hp} {s : RdS}
theorem mut_ne (R : RdAt c x G H s) : x.r ≠ x.ds ∧ x.r ≠ x.dn ∧ x.r ≠ x.lp ∧ x.r ≠ x.le ∧ x.r ≠ x.q ∧ x.ds ≠ x.dn ∧ x.ds ≠ x.lp ∧ x.ds ≠ x.le ∧ x.ds ≠ x.q ∧ x.dn ≠ x.lp ∧ x.dn ≠ x.le ∧ x.dn ≠ x.q ∧ x.lp ≠ x.le ∧ x.lp ≠ x.q ∧ x.le ≠ x.q := by
  have nd := R.nd
  unfold RA.muts at nd
  simp only [List.nodup_cons, List.mem_cons, not_or, List.not_mem_nil, not_false_eq_true, List.nodup_nil, and_true] at nd
  obtain ⟨⟨a1, a2, a3, a4, a5⟩, ⟨b1, b2, b3, b4⟩, ⟨c1, c2, c3⟩, ⟨d1, d2⟩, e1⟩ := nd
  exact ⟨a1, a2, a3, a4, a5, b1, b2, b3, b4, c1, c2, c3, d1, d2, e1⟩
theorem Fr.at_mut {H1 : Hp} {b : Addr} {o : HO} (f : Fr x H H1) (hb : b ∈ x.muts) : Fr x H (upd H1 b o) := ⟨fun a u e n => by rw [upd_ne (fun z => n (by rw [z]; exact hb))]; exact f.1 a u e n, fun a e => by
  by_cases z : a = b
  · rw [z, upd_same] at e
    cases e
  · rw [upd_ne z] at e
    exact f.2 a e⟩
theorem mem_q : x.q ∈ x.muts := by unfold RA.muts; simp
theorem mem_ds : x.ds ∈ x.muts := by unfold RA.muts; simp
theorem mem_dn : x.dn ∈ x.muts := by unfold RA.muts; simp
theorem mem_lp : x.lp ∈ x.muts := by unfold RA.muts; simp
theorem mem_le : x.le ∈ x.muts := by unfold RA.muts; simp
theorem RdAt.call {p : Addr} {n : PName} {qs : List Addr} (R : RdAt c x G H s) (hq : H x.q = some (.lst (qs.map V.ref))) (ha : All2 (CalledAt c G) qs s.called) (hp : CalledAt c G p n) (hb : s.called.length + 1 + s.l.length ≤ 5000) :
    RdAt c x G (upd H x.q (.lst (qs.map V.ref ++ [V.ref p]))) (s.wc s.l (s.called ++ [n])) := by
  obtain ⟨_, _, _, _, n5, _, _, _, n9, _, _, n12, _, n14, n15⟩ := mut_ne R
  obtain ⟨j, as, all, h1, h2⟩ := R.toks
  refine ⟨fun a u e => by rw [upd_ne (ne_of_none e (R.free _ mem_q))]; exact R.sub a u e, R.free, R.nd, ⟨j, as, all, (upd_ne n5).trans h1, h2⟩, R.prog, (upd_ne n9).trans R.ds, R.sets, (upd_ne n12).trans R.dn, (upd_ne n14).trans R.lp, R.parts, (upd_ne n15).trans R.le,
    ⟨qs ++ [p], by rw [upd_same, List.map_append]; rfl, ha.snoc hp⟩, ?_⟩
  show (s.called ++ [n]).length + s.l.length ≤ 5000
  rw [List.length_append, List.length_singleton]
  exact hb
end
section
variable {P : Program} {w : World} {K : PySem.W.Frag} {mg : Str → Option Value} {base : Heap} {c : Cs}
/-! ### read_call -/
def spCallR (c : Cs) : Sp := fun vs H Q E => ∃ (x : RA) (G : Hp) (s : RdS) (t : PTok) (l : Toks), vs = [.ref x.r] ∧ RdAt c x G H s ∧ Endy s.l ∧ s.l = t :: l ∧ kindS t.tok = "call" ∧
  itemEnds c x G H s ((VakepBase.takeName l).bind fun p => (VakepBase.takeSign 59 p.2).map fun r => (.call p.1, r)) Q E
theorem scCallR : FnScope ["self", "token"] ["self"] (defScope s_Reader_read_call) := ⟨rfl, rfl, rfl, by decide +kernel, rfl, by decide +kernel, by decide +kernel⟩
theorem ok_callR {fF : Addr} (T : RdT K mg c fF) (D : MethAt K c.reader "read_call" "Reader.read_call" s_Reader_read_call) (A1 : OkM P w K mg base (L2.CX P w) 2 c.reader "take" ["self", "kind"] (spTake c))
    (A4 : OkI P w K mg base CX0 1 c.call "Call" ["self", "name"] (spI c.call (mk1 "name") 1)) : OkM P w K mg base (L2.CX P w) 4 c.reader "read_call" ["self"] (spCallR c) := by
  refine OkM.mk' D (fun f fd F => F.okX scCallR (fun vs H Q E h => ?_) (fun cdv A outer s0 H vs Q E hr h => ?_)) (fun _ _ _ _ _ _ us hl => match us, hl with | [_], _ => rfl)
  · obtain ⟨x, G, s, t, l, rfl, _⟩ := h
    rfl
  · obtain ⟨x, G, s, t0, l0, rfl, R, hen, hl0, hk0, h⟩ := h
    have Tr := T.cs.reader
    have hr2 : Room 2 _ := hr.mono (by decide)
    refine ⟨_, pss_cons (ps_expr (cm (pv 0) Tr.cl A1 hr2 pout (pa_cons pe_str pa_nil)))
      (pss_cons (ps_set (i := 1) scCallR.nd rfl (.inl rfl) (cm (pv 0) Tr.cl A1 hr2 pout (pa_cons pe_str pa_nil)))
      (pss_cons (ps_expr (pe_bm PySem.F.plainAttrs_list PySem.F.slot_list_append PySem.F.type_list_append mt_append (pe_fld (pv 0) rfl) (pa_cons (pv 1) pa_nil)))
      (pss_cons (ps_expr (cm (pv 0) Tr.cl A1 hr2 pout (pa_cons pe_str pa_nil)))
      (pss_one (ps_ret (ci A4 hr2 pass0 (pa_cons (pe_fld (pv 1) rfl) pa_nil))))))), ?_⟩
    have hsz : sizeLine = 16777216 := sizeLine_eq
    obtain ⟨j0, h0⟩ := R.obj
    refine ⟨_, rfl, x.r, x.dx, _, rfl, h0, readerF_no (by decide), x, G, s, t0, l0, _, rfl, R, hl0, fun _ H0 p0 R0 f0 _ => ?_, fun ne => absurd hk0 ne⟩
    have hen0 : Endy l0 := by
      rw [hl0] at hen
      exact endy_cons hen (fun z => by rw [z] at hk0; exact absurd hk0 (by decide +kernel))
    have hll0 : s.l.length = l0.length + 1 := by rw [hl0, List.length_cons]
    obtain ⟨t1, l1, rfl⟩ := endy_ne hen0
    obtain ⟨j1, h1⟩ := R0.obj
    refine ⟨_, rfl, x.r, x.dx, _, rfl, h1, readerF_no (by decide), x, G, _, t1, l1, _, rfl, R0, rfl, fun e H1 p R1 f1 ht => ?_, fun ne => ?_⟩
    · obtain ⟨b, hb, hres⟩ := kind_name.mp e
      obtain ⟨pl, tk⟩ := t1
      have hb : tk = .name b := hb
      subst hb
      have hen1 : Endy l1 := endy_cons hen0 (by intro z; cases z)
      obtain ⟨t2, l2, rfl⟩ := endy_ne hen1
      rw [takeName_ok hres] at h
      have ht' := ht
      obtain ⟨af, tx, h5⟩ := ht
      have h5 := R1.sub _ _ h5
      have tt : (tokF (kindS (.name b)) pl af (textS (.name b)) (numS (.name b))).lookup ("text" : Str) = some (.str (toStr b)) := by rw [name_text hres]; exact tokF_text
      obtain ⟨qs, q1, q2⟩ := R1.q
      obtain ⟨j2, h2⟩ := R1.obj
      have hbig := R.big
      rw [List.length_cons, List.length_cons] at hll0
      have hql : (List.map V.ref qs).length ≤ 5000 := by
        rw [List.length_map, q2.len]
        show s.called.length ≤ 5000
        omega
      refine ⟨_, rfl, x.r, c.reader, x.dx, _, _, rfl, h2, Tr.cl, Tr.no _ (by decide), readerF_q, .inl ⟨rfl, _, SqL.of q1⟩, _, rfl, x.q, _, _, rfl, rfl, q1, (by omega), ?_⟩
      have R2 := R1.call (n := ⟨pl, b⟩) q1 q2 ⟨hres, ht'⟩ (by show s.called.length + 1 + (t2 :: l2).length ≤ 5000; rw [List.length_cons]; omega)
      have f2 : Fr x H (upd H1 x.q (.lst (qs.map V.ref ++ [V.ref p]))) := (f0.trans f1).at_mut mem_q
      obtain ⟨j3, h3⟩ := R2.obj
      have hnq : p ≠ x.q := ne_of h5 q1 (by intro z; cases z)
      have h5' := (upd_ne (o := HO.lst (qs.map V.ref ++ [V.ref p])) hnq).trans h5
      have h : itemEnds c x G H s ((VakepBase.takeSign 59 (t2 :: l2)).map fun r => (.call ⟨pl, b⟩, r)) Q E := h
      rw [takeSign_is (s := ";") (by decide +kernel)] at h
      refine ⟨_, rfl, x.r, x.dx, _, rfl, h3, readerF_no (by decide), x, G, _, t2, l2, _, rfl, R2, rfl, fun e2 H3 p3 R3 f3 _ => ?_, fun ne2 => ?_⟩
      · rw [if_pos e2] at h
        have ne2 : t2.tok ≠ .last := fun z => by rw [z] at e2; exact absurd e2 (by decide +kernel)
        have h6 := f3.1 _ _ h5' (fun m => by
          obtain ⟨o, ho⟩ := R.tracked m
          have z := R1.free _ m
          obtain ⟨_, _, z2⟩ := ht'
          rw [z] at z2
          cases z2)
        refine ⟨_, rfl, p, c.tok, tx, _, _, rfl, h6, T.cs.tok.cl, T.cs.tok.text, tt, fun o dx ho hdx hne => ⟨o, dx, [.str (toStr b)], rfl, rfl, upd_same, fun H4 h4 fr => ⟨rfl, ?_⟩⟩⟩
        have sm : Same H3 H4 := Same.made ho hdx fr
        have f4 : Fr x H H4 := (f2.trans f3).trans (Fr.of sm)
        have hHo : H o = none := (f2.trans f3).2 _ ho
        have R4 := R3.made ho h4 sm
        exact h _ H4 o (Ext.put (o := .ins c.call dx (callF (toStr b))) (Ext.of (f2.trans f3)) hHo (R.sub.free hHo) f4) R4 (endy_cons hen1 ne2) (by show l2.length < s.l.length; omega) ⟨dx, upd_same⟩
      · rw [if_neg ne2] at h
        exact FX.from h f2
    · rw [takeName_no ne] at h
      exact FX.from h f0
end
end Pk
end
section
set_option Elab.async false
set_option linter.all false
set_option maxRecDepth 100000
set_option maxHeartbeats 4000000
namespace Pk
open PySem PySem.Spec PyProof.Rows L2
open Vakepa (Piece Part Prog Raw RawPart)
open VakepBase (PTok Toks PName RESERVED word tokEq)
section
variable {P : Program} {w : World} {K : PySem.W.Frag} {mg : Str → Option Value} {base : Heap} {c : Cs}
def bodyEnds (c : Cs) (x : RA) (G H : Hp) (s : RdS) (r : Except VakepBase.Fault (Raw × Toks)) (Q : VK) (E : XK) : Prop := match r with
  | .error f => FX c x H E f.code f.place
  | .ok (b, m) => ∀ (G' H' : Hp) (o : Addr) (xs : List V), Ext x G H G' H' → RdAt c x G' H' (s.wc m (s.called ++ callsOf b)) → Endy m → m.length < s.l.length → G' o = some (.lst xs) → RawL c s.sets G' b xs → Q (.ref o) H'
def spBodyR (c : Cs) (d : Nat) : Sp := fun vs H Q E => ∃ (x : RA) (G : Hp) (s : RdS) (n : Nat), vs = [.ref x.r, .int d] ∧ RdAt c x G H s ∧ Endy s.l ∧ s.l.length ≤ n ∧ bodyEnds c x G H s ((VakepBase.takeSign 123 s.l).bind fun r => Vakepa.takeStmts s.sets n d r) Q E
def spStmtR (c : Cs) (d : Nat) : Sp := fun vs H Q E => ∃ (x : RA) (G : Hp) (s : RdS) (n : Nat), vs = [.ref x.r, .int d] ∧ RdAt c x G H s ∧ Endy s.l ∧ s.l.length ≤ n ∧ itemEnds c x G H s (takeOne s.sets n d s.l) Q E
def spWhenR (c : Cs) (d : Nat) : Sp := fun vs H Q E => ∃ (x : RA) (G : Hp) (s : RdS) (n : Nat) (t : PTok) (l : Toks), vs = [.ref x.r, .int d] ∧ RdAt c x G H s ∧ Endy s.l ∧ s.l.length ≤ n ∧ s.l = t :: l ∧ kindS t.tok = "when" ∧ itemEnds c x G H s (takeOne s.sets n d s.l) Q E
theorem scWhenR : FnScope ["self", "around", "token", "setting", "word"] ["self", "around"] (defScope s_Reader_read_when) := ⟨rfl, rfl, rfl, by decide +kernel, rfl, by decide +kernel, by decide +kernel⟩
theorem kind_not {t : VTok} {s u : Str} (h : kindS t = s) (hu : s ≠ u) : decide (kindS t = u) = false := decide_eq_false (fun z => hu (by rw [← h, z]))
theorem takeOne_when {ss : List VSet} {n d : Nat} {t : PTok} {l : Toks} (h : kindS t.tok = "when") : takeOne ss n d (t :: l) = if 3 ≤ d then .error ⟨4, t.place⟩ else (VakepBase.takeName l).bind fun x => match ss.findIdx? fun s => s.name == x.1.name with
      | none => .error ⟨8, x.1.place⟩
      | some k => (VakepBase.takeWord "is" x.2).bind fun r => (VakepBase.takeName r).bind fun v => match ((ss[k]?).map fun s => s.values).bind fun vs => vs.findIdx? fun y => y == v.1.name with
        | none => .error ⟨8, v.1.place⟩
        | some j => (VakepBase.takeSign 123 v.2).bind fun r => (Vakepa.takeStmts ss n (d + 1) r).map fun b => (.when_ k j b.1, b.2) := by
  unfold takeOne
  rw [nextWord_is (by decide), kind_not h (by decide +kernel), if_neg Bool.false_ne_true, nextWord_is (by decide), kind_not h (by decide +kernel), if_neg Bool.false_ne_true, nextWord_is (by decide), kind_not h (by decide +kernel), if_neg Bool.false_ne_true,
    takeWord_is (by decide), if_pos h]
  rfl
/-- no promise at all -/
theorem OkM.none {CX : CXT} {k : Nat} {C : Addr} {m qual : Str} {ps : List Str} {st : Stmt} (D : MethAt K C m qual st)
    (b : ∀ (kV doc pm : Value) (an : Option Addr) (cdv ct : Value) (us : List Value), us.length = ps.length → bindArgs (PySem.W.fnOf m qual (defArgs st) (defBody st) (defScope st) .none kV doc pm an cdv ct) ⟨us, []⟩ = pure (ps.zip us)) : OkM P w K mg base CX k C m ps (fun _ _ _ _ => False) := by
  obtain ⟨f, fd, F, g⟩ := D.ex
  exact ⟨f, fd, ⟨fun _ _ _ _ h => h.elim, fun _ _ _ _ _ _ _ _ _ _ _ _ _ h => h.elim⟩, g, F.binds b⟩
def spBodyP (c : Cs) (d : Nat) : Sp := if 3 ≤ d then fun _ _ _ _ => False else spBodyR c (d + 1)
theorem ok_whenR {fF : Addr} (T : RdT K mg c fF) {d k : Nat} (hk : 3 ≤ k) (D : MethAt K c.reader "read_when" "Reader.read_when" s_Reader_read_when) (A1 : OkM P w K mg base (L2.CX P w) 2 c.reader "take" ["self", "kind"] (spTake c))
    (A2 : OkM P w K mg base (L2.CX P w) 3 c.reader "take_known" ["self", "names"] (spKnown c)) (A3 : OkM P w K mg base (L2.CX P w) k c.reader "read_body" ["self", "around"] (spBodyP c d))
    (A4 : OkI P w K mg base CX0 1 c.when_ "When" ["self", "setting", "word", "body"] (spI c.when_ (mk3 "setting" "word" "body") 3)) : OkM P w K mg base (L2.CX P w) (k + 1) c.reader "read_when" ["self", "around"] (spWhenR c d) := by
  refine OkM.mk' D (fun f fd F => F.okX scWhenR (fun vs H Q E h => ?_) (fun cdv A outer s0 H vs Q E hr h => ?_)) (fun _ _ _ _ _ _ us hl => match us, hl with | [_, _], _ => rfl)
  · obtain ⟨x, G, s, n, t, l, rfl, _⟩ := h
    rfl
  · obtain ⟨x, G, s, n, t0, l0, rfl, R, hen, hn, hl0, hk0, h⟩ := h
    have Tr := T.cs.reader
    have hr2 : Room 2 _ := hr.mono (by omega)
    have hr3 : Room 3 _ := hr.mono (by omega)
    have hu := hu_of hr
    refine ⟨_, pss_cons (ps_set (i := 2) scWhenR.nd rfl (.inl rfl) (cm (pv 0) Tr.cl A1 hr2 pout (pa_cons pe_str pa_nil)))
      (pss_cons (ps_if (pt_cmpR op_gt (pv 1) (gi T.mwa) (nomark _)) (pss_one (ps_raiseF rfl T.ft hr3 (takes_of rfl rfl rfl rfl) (by exact (pa_cons (gi T.e4) (pa_cons (pe_fld (pv 2) rfl) pa_nil))))) pss_nil)
      (pss_cons (ps_set (i := 3) scWhenR.nd rfl (.inl rfl) (cm (pv 0) Tr.cl A2 hr3 pout (pa_cons (pe_fld (pe_fld (pv 0) rfl) rfl) pa_nil)))
      (pss_cons (ps_expr (cm (pv 0) Tr.cl A1 hr2 pout (pa_cons pe_str pa_nil)))
      (pss_cons (ps_set (i := 4) scWhenR.nd rfl (.inl rfl) (cm (pv 0) Tr.cl A2 hr3 pout (pa_cons (pe_dget hu (pe_fld (pe_fld (pv 0) rfl) rfl) (pv 3) (fun _ _ => rfl)) pa_nil)))
      (pss_one (ps_ret (ci A4 hr2 pass0 (pa_cons (pv 3) (pa_cons (pv 4) (pa_cons (cm (pv 0) Tr.cl A3 hr pout (pa_cons (pe_op op_add (pv 1) pe_int) pa_nil)) pa_nil)))))))))), ?_⟩
    obtain ⟨j0, h0⟩ := R.obj
    rw [hl0, takeOne_when hk0] at h
    refine ⟨_, rfl, x.r, x.dx, _, rfl, h0, readerF_no (by decide), x, G, s, t0, l0, _, rfl, R, hl0, fun _ H0 p0 R0 f0 ht0 => ?_, fun ne => absurd hk0 ne⟩
    have hen0 : Endy l0 := by
      rw [hl0] at hen
      exact endy_cons hen (fun z => by rw [z] at hk0; exact absurd hk0 (by decide +kernel))
    have hll0 : s.l.length = l0.length + 1 := by rw [hl0, List.length_cons]
    obtain ⟨af0, tx0, h50⟩ := ht0
    have h50 := R0.sub _ _ h50
    refine ⟨_, rfl, _, _, rfl, rfl, _, rfl, ?_⟩
    refine ited (fun hd => ?_) (fun hd => ?_)
    · rw [if_pos (by omega)] at h
      exact ⟨_, rfl, p0, c.tok, tx0, _, _, rfl, h50, T.cs.tok.cl, T.cs.tok.place, tokF_place, _, _, rfl, fun d hd => FX.now h f0 hd⟩
    · rw [if_neg (by omega)] at h
      obtain ⟨gx, hg⟩ := R.prog
      have hg0 := R0.sub _ _ hg
      obtain ⟨j1, h1⟩ := R0.obj
      obtain ⟨t1, l1, rfl⟩ := endy_ne hen0
      refine ⟨_, rfl, x.r, x.dx, _, rfl, h1, readerF_no (by decide), _, rfl, x.r, c.reader, x.dx, _, _, rfl, h1, Tr.cl, Tr.no _ (by decide), readerF_g, x.g, c.prog, gx, _, _, rfl, hg0, T.cs.prog.cl, T.cs.prog.no _ (by decide), progF_s, ?_⟩
      refine ⟨x, G, _, t1, l1, x.ds, _, rfl, R0, rfl, .inl ⟨rfl, rfl⟩, ?_⟩
      unfold knownEnds
      by_cases k1 : kindS t1.tok = "name"
      · obtain ⟨b1, hb1, hres1⟩ := kind_name.mp k1
        obtain ⟨pl1, tk1⟩ := t1
        have hb1 : tk1 = .name b1 := hb1
        subst hb1
        have hen1 : Endy l1 := endy_cons hen0 (by intro z; cases z)
        have e1 : VakepBase.takeName (s.to (⟨pl1, .name b1⟩ :: l1)).l = .ok (⟨pl1, b1⟩, l1) := takeName_ok hres1
        rw [takeName_ok hres1] at h
        rw [e1]
        show if (s.sets.findIdx? fun z => z.name == b1).isSome = true then _ else FX c x H0 E 8 pl1
        have h : itemEnds c x G H s (match s.sets.findIdx? fun s => s.name == b1 with
          | none => .error ⟨8, pl1⟩
          | some k => (VakepBase.takeWord "is" l1).bind fun r => (VakepBase.takeName r).bind fun v => match ((s.sets[k]?).map fun s => s.values).bind fun vs => vs.findIdx? fun y => y == v.1.name with
            | none => .error ⟨8, v.1.place⟩
            | some j => (VakepBase.takeSign 123 v.2).bind fun r => (Vakepa.takeStmts s.sets n (d + 1) r).map fun b => (.when_ k j b.1, b.2)) Q E := h
        cases q1 : s.sets.findIdx? fun z => z.name == b1 with
        | none =>
          rw [q1] at h
          rw [if_neg (by decide)]
          exact FX.from h f0
        | some k =>
          rw [q1] at h
          rw [if_pos (show (some k).isSome = true from rfl)]
          intro H1 R1 f1
          have R1 : RdAt c x G H1 (s.to l1) := R1
          obtain ⟨t2, l2, rfl⟩ := endy_ne hen1
          obtain ⟨j2, h2⟩ := R1.obj
          have f01 := f0.trans f1
          have h : itemEnds c x G H s ((VakepBase.takeWord "is" (t2 :: l2)).bind fun r => (VakepBase.takeName r).bind fun v => match ((s.sets[k]?).map fun s => s.values).bind fun vs => vs.findIdx? fun y => y == v.1.name with
            | none => .error ⟨8, v.1.place⟩
            | some j => (VakepBase.takeSign 123 v.2).bind fun r => (Vakepa.takeStmts s.sets n (d + 1) r).map fun b => (.when_ k j b.1, b.2)) Q E := h
          rw [takeWord_is (by decide)] at h
          refine ⟨_, rfl, x.r, x.dx, _, rfl, h2, readerF_no (by decide), x, G, _, t2, l2, _, rfl, R1, rfl, fun e2 H2 p2 R2 f2 _ => ?_, fun ne2 => ?_⟩
          · have R2 : RdAt c x G H2 (s.to l2) := R2
            rw [if_pos e2] at h
            have hen2 : Endy l2 := endy_cons hen1 (fun z => by rw [z] at e2; exact absurd e2 (by decide +kernel))
            obtain ⟨t3, l3, rfl⟩ := endy_ne hen2
            obtain ⟨j3, h3⟩ := R2.obj
            have f02 := f01.trans f2
            have hg2 := R2.sub _ _ hg
            have sv := sets_val b1 R2.sets
            have q1' : ((s.to (t3 :: l3)).sets.findIdx? fun z => z.name == b1) = some k := q1
            have hsv : ∃ (a : Addr) (st : VSet), s.sets[k]? = some st ∧ st.name = b1 ∧ valV s.kvs (kS b1) = some (.ref a) ∧ G a = some (.lst (st.values.map sV)) := by
              have z := sets_val b1 R.sets
              rw [q1] at z
              exact z
            obtain ⟨a, st, hst, hname, hval, hGa⟩ := hsv
            refine ⟨_, rfl, x.r, x.dx, _, rfl, h3, readerF_no (by decide), _, rfl, x.r, c.reader, x.dx, _, _, rfl, h3, Tr.cl, Tr.no _ (by decide), readerF_g, x.g, c.prog, gx, _, _, rfl, hg2, T.cs.prog.cl, T.cs.prog.no _ (by decide), progF_s, _, rfl, x.ds, _, rfl, (by rw [← hval]; exact DGet.k (k := kS b1) R2.ds), ?_⟩
            refine ⟨x, G, _, t3, l3, a, _, rfl, R2, rfl, .inr ⟨st.values, hGa, rfl⟩, ?_⟩
            unfold knownEnds
            by_cases k3 : kindS t3.tok = "name"
            · obtain ⟨b3, hb3, hres3⟩ := kind_name.mp k3
              obtain ⟨pl3, tk3⟩ := t3
              have hb3 : tk3 = .name b3 := hb3
              subst hb3
              have hen3 : Endy l3 := endy_cons hen2 (by intro z; cases z)
              have e3 : VakepBase.takeName (s.to (⟨pl3, .name b3⟩ :: l3)).l = .ok (⟨pl3, b3⟩, l3) := takeName_ok hres3
              rw [e3]
              show if st.values.contains b3 = true then _ else FX c x H2 E 8 pl3
              have h : itemEnds c x G H s ((VakepBase.takeName (⟨pl3, .name b3⟩ :: l3)).bind fun v => match ((s.sets[k]?).map fun s => s.values).bind fun vs => vs.findIdx? fun y => y == v.1.name with
                | none => .error ⟨8, v.1.place⟩
                | some j => (VakepBase.takeSign 123 v.2).bind fun r => (Vakepa.takeStmts s.sets n (d + 1) r).map fun b => (.when_ k j b.1, b.2)) Q E := h
              rw [takeName_ok hres3, hst] at h
              have h : itemEnds c x G H s (match st.values.findIdx? fun y => y == b3 with
                | none => .error ⟨8, pl3⟩
                | some j => (VakepBase.takeSign 123 l3).bind fun r => (Vakepa.takeStmts s.sets n (d + 1) r).map fun b => (.when_ k j b.1, b.2)) Q E := h
              have hcont : st.values.contains b3 = (st.values.findIdx? fun y => y == b3).isSome := by
                rw [List.findIdx?_isSome, List.contains_eq_any_beq]
                congr 1
                funext y
                rw [Bool.eq_iff_iff, beq_iff_eq, beq_iff_eq]
                exact ⟨fun z => z.symm, fun z => z.symm⟩
              rw [hcont]
              cases q3 : st.values.findIdx? fun y => y == b3 with
              | none =>
                rw [q3] at h
                rw [if_neg (by decide)]
                exact FX.from h f02
              | some jj =>
                rw [q3] at h
                rw [if_pos (show (some jj).isSome = true from rfl)]
                intro H3 R3 f3
                have R3 : RdAt c x G H3 (s.to l3) := R3
                have f03 := f02.trans f3
                obtain ⟨j4, h4⟩ := R3.obj
                have h : itemEnds c x G H s ((VakepBase.takeSign 123 l3).bind fun r => (Vakepa.takeStmts s.sets n (d + 1) r).map fun b => (.when_ k jj b.1, b.2)) Q E := h
                rw [List.length_cons, List.length_cons, List.length_cons] at hll0
                have around : ((d : Int)) + 1 = ((d + 1 : Nat) : Int) := by omega
                refine ⟨_, rfl, _, rfl, _, rfl, x.r, x.dx, _, rfl, h4, readerF_no (by decide), _, rfl, _, _, rfl, rfl, ?_⟩
                unfold spBodyP
                rw [if_neg (by omega)]
                refine ⟨x, G, _, n, by rw [← around]; rfl, R3, hen3, by show l3.length ≤ n; omega, ?_⟩
                have h : itemEnds c x G H s (((VakepBase.takeSign 123 l3).bind fun r => Vakepa.takeStmts s.sets n (d + 1) r).map fun b => (.when_ k jj b.1, b.2)) Q E := by
                  have z : ((VakepBase.takeSign 123 l3).bind fun r => (Vakepa.takeStmts s.sets n (d + 1) r).map fun b => (Item.when_ k jj b.1, b.2)) = (((VakepBase.takeSign 123 l3).bind fun r => Vakepa.takeStmts s.sets n (d + 1) r).map fun b => (Item.when_ k jj b.1, b.2)) := by
                    cases VakepBase.takeSign 123 l3 <;> rfl
                  rw [← z]
                  exact h
                show bodyEnds c x G H3 (s.to l3) ((VakepBase.takeSign 123 l3).bind fun r => Vakepa.takeStmts s.sets n (d + 1) r) _ E
                cases q4 : (VakepBase.takeSign 123 l3).bind fun r => Vakepa.takeStmts s.sets n (d + 1) r with
                | error f =>
                  rw [q4] at h
                  exact FX.from (c := c) (x := x) h f03
                | ok bm =>
                  rw [q4] at h
                  obtain ⟨b, m⟩ := bm
                  intro G4 H4 q xs E4 R4 hen4 hlen4 hq hb4
                  intro o dx ho hdx hne
                  refine ⟨o, dx, [.str (toStr b1), .str (toStr b3), .ref q], rfl, rfl, upd_same, fun H5 h5 fr => ⟨rfl, ?_⟩⟩
                  have sm : Same H4 H5 := Same.made ho hdx fr
                  have f05 : Fr x H H5 := (f03.trans E4.fr).trans (Fr.of sm)
                  have hHo : H o = none := (f03.trans E4.fr).2 _ ho
                  have hG4o : G4 o = none := R4.sub.free ho
                  have R5 := R4.made ho h5 sm
                  have sG : Same G4 (upd G4 o (.ins c.when_ dx (whenF (toStr b1) (toStr b3) q))) := Same.new hG4o
                  have en1 : setName s.sets k = b1 := by
                    unfold setName
                    rw [hst]
                    exact hname
                  have en2 : setWord s.sets k jj = b3 := by
                    unfold setWord
                    rw [hst]
                    obtain ⟨g1, g2, _⟩ := List.findIdx?_eq_some_iff_getElem.mp q3
                    show (st.values[jj]?).getD [] = b3
                    rw [List.getElem?_eq_getElem g1]
                    exact beq_iff_eq.mp g2
                  refine h _ H5 o (Ext.put (o := .ins c.when_ dx (whenF (toStr b1) (toStr b3) q)) ((Ext.of f03).trans E4) hHo (R.sub.free hHo) f05) R5 hen4 ?_ ⟨q, xs, ⟨dx, ?_⟩, sG _ _ hq, hb4.same sG⟩
                  · show m.length < s.l.length
                    have hlen4 : m.length < l3.length := hlen4
                    omega
                  · rw [en1, en2]
                    exact upd_same
            · have e3 : VakepBase.takeName (s.to (t3 :: l3)).l = .error ⟨3, t3.place⟩ := takeName_no k3
              rw [e3]
              have h : itemEnds c x G H s ((VakepBase.takeName (t3 :: l3)).bind fun v => match ((s.sets[k]?).map fun s => s.values).bind fun vs => vs.findIdx? fun y => y == v.1.name with
                | none => .error ⟨8, v.1.place⟩
                | some j => (VakepBase.takeSign 123 v.2).bind fun r => (Vakepa.takeStmts s.sets n (d + 1) r).map fun b => (.when_ k j b.1, b.2)) Q E := h
              rw [takeName_no k3] at h
              exact FX.from (c := c) (x := x) h f02
          · rw [if_neg ne2] at h
            exact FX.from (c := c) (x := x) h f01
      · have e1 : VakepBase.takeName (s.to (t1 :: l1)).l = .error ⟨3, t1.place⟩ := takeName_no k1
        rw [takeName_no k1] at h
        rw [e1]
        exact FX.from (c := c) (x := x) h f0
end
end Pk
end
section
set_option Elab.async false
set_option linter.all false
set_option maxRecDepth 100000
set_option maxHeartbeats 4000000
namespace Pk
open PySem PySem.Spec PyProof.Rows L2
open Vakepa (Piece Part Prog Raw RawPart)
open VakepBase (PTok Toks PName RESERVED word tokEq)
theorem takeOne_make {ss : List VSet} {n d : Nat} {t : PTok} {l : Toks} (h : kindS t.tok = "make") : takeOne ss n d (t :: l) = (Vakepa.takePieces ss ((t :: l).length + 1) [] l).map fun p => (.make p.1, p.2) := by
  unfold takeOne
  rw [nextWord_is (by decide), kind_not h (by decide +kernel), if_neg Bool.false_ne_true, nextWord_is (by decide), kind_not h (by decide +kernel), if_neg Bool.false_ne_true, nextWord_is (by decide), decide_eq_true h, if_pos rfl]
  rfl
theorem takeOne_call {ss : List VSet} {n d : Nat} {t : PTok} {l : Toks} (h : kindS t.tok = "call") : takeOne ss n d (t :: l) = (VakepBase.takeName l).bind fun p => (VakepBase.takeSign 59 p.2).map fun r => (.call p.1, r) := by
  unfold takeOne
  rw [nextWord_is (by decide), kind_not h (by decide +kernel), if_neg Bool.false_ne_true, nextWord_is (by decide), decide_eq_true h, if_pos rfl]
  rfl
theorem takeOne_say {ss : List VSet} {n d : Nat} {t : PTok} {l : Toks} (h : kindS t.tok = "say") : takeOne ss n d (t :: l) = (Vakepa.takeNat 99 l).bind fun k => (VakepBase.takeSign 59 k.2).map fun r => (.say k.1, r) := by
  unfold takeOne
  rw [nextWord_is (by decide), decide_eq_true h, if_pos rfl]
  rfl
theorem takeOne_no {ss : List VSet} {n d : Nat} {t : PTok} {l : Toks} (h1 : kindS t.tok ≠ "say") (h2 : kindS t.tok ≠ "call") (h3 : kindS t.tok ≠ "make") (h4 : kindS t.tok ≠ "when") : takeOne ss n d (t :: l) = .error ⟨3, t.place⟩ := by
  unfold takeOne
  rw [nextWord_is (by decide), decide_eq_false h1, if_neg Bool.false_ne_true, nextWord_is (by decide), decide_eq_false h2, if_neg Bool.false_ne_true, nextWord_is (by decide), decide_eq_false h3, if_neg Bool.false_ne_true, takeWord_is (by decide), if_neg h4]
  rfl
def links : List Item → Raw
  | [] => .done
  | i :: r => link i (links r)
def linkTo : List Item → Raw → Raw
  | [], r => r
  | i :: is, r => link i (linkTo is r)
theorem linkTo_snoc : ∀ (is : List Item) (i : Item) (r : Raw), linkTo (is ++ [i]) r = linkTo is (link i r)
  | [], _, _ => rfl
  | j :: is, i, r => by
    show link j (linkTo (is ++ [i]) r) = link j (linkTo is (link i r))
    rw [linkTo_snoc]
theorem calls_linkTo : ∀ (is : List Item) (r : Raw), callsOf (linkTo is r) = is.flatMap callsI ++ callsOf r
  | [], _ => rfl
  | i :: is, r => by
    show callsOf (link i (linkTo is r)) = _
    rw [callsOf_link, calls_linkTo is r, List.flatMap_cons, List.append_assoc]
theorem raw_all {c : Cs} {ss : List VSet} {G : Hp} : ∀ {os : List Addr} {is : List Item}, All2 (ItemAt c ss G) os is → RawL c ss G (linkTo is .done) (os.map V.ref)
  | _, _, .nil => rfl
  | _, _, .cons h t => raw_cons h (raw_all t)
section
variable {P : Program} {w : World} {K : PySem.W.Frag} {mg : Str → Option Value} {base : Heap} {c : Cs}
theorem sayF_number {k : Int} : (sayF k).lookup ("number" : Str) = some (.int k) := by kernel_rfl
theorem scStmtR : FnScope ["self", "around", "statement"] ["self", "around"] (defScope s_Reader_read_statement) := ⟨rfl, rfl, rfl, by decide +kernel, rfl, by decide +kernel, by decide +kernel⟩
theorem ok_stmtR {fF : Addr} (T : RdT K mg c fF) {d k : Nat} (hk : 4 ≤ k) (D : MethAt K c.reader "read_statement" "Reader.read_statement" s_Reader_read_statement) (A0 : OkM P w K mg base CX0 1 c.reader "kind_ahead" ["self"] (spKind c)) (A1 : OkM P w K mg base (L2.CX P w) 2 c.reader "take" ["self", "kind"] (spTake c))
    (A2 : OkM P w K mg base (L2.CX P w) k c.reader "read_when" ["self", "around"] (spWhenR c d)) (A3 : OkM P w K mg base (L2.CX P w) 4 c.reader "read_make" ["self"] (spMakeR c)) (A4 : OkM P w K mg base (L2.CX P w) 4 c.reader "read_call" ["self"] (spCallR c))
    (A5 : OkM P w K mg base (L2.CX P w) 3 c.reader "take_size" ["self"] (spSize c)) (A6 : OkI P w K mg base CX0 1 c.say "Say" ["self", "number"] (spI c.say (mk1 "number") 1)) : OkM P w K mg base (L2.CX P w) (k + 1) c.reader "read_statement" ["self", "around"] (spStmtR c d) := by
  refine OkM.mk' D (fun f fd F => F.okX scStmtR (fun vs H Q E h => ?_) (fun cdv A outer s0 H vs Q E hr h => ?_)) (fun _ _ _ _ _ _ us hl => match us, hl with | [_, _], _ => rfl)
  · obtain ⟨x, G, s, n, rfl, _⟩ := h
    rfl
  · obtain ⟨x, G, s, n, rfl, R, hen, hn, h⟩ := h
    have Tr := T.cs.reader
    have hr1 : Room 1 _ := hr.mono (by omega)
    have hr2 : Room 2 _ := hr.mono (by omega)
    have hr3 : Room 3 _ := hr.mono (by omega)
    have hr4 : Room 4 _ := hr.mono hk
    refine ⟨_, pss_cons (ps_if (pt_cmpR op_eq (cm0 (pv 0) Tr.cl A0 hr1 pass0) pe_str (nomark _)) (pss_one (ps_ret (cm (pv 0) Tr.cl A2 hr pout (pa_cons (pv 1) pa_nil)))) pss_nil)
      (pss_cons (ps_if (pt_cmpR op_eq (cm0 (pv 0) Tr.cl A0 hr1 pass0) pe_str (nomark _)) (pss_one (ps_ret (cm0 (pv 0) Tr.cl A3 hr4 pout))) pss_nil)
      (pss_cons (ps_if (pt_cmpR op_eq (cm0 (pv 0) Tr.cl A0 hr1 pass0) pe_str (nomark _)) (pss_one (ps_ret (cm0 (pv 0) Tr.cl A4 hr4 pout))) pss_nil)
      (pss_cons (ps_expr (cm (pv 0) Tr.cl A1 hr2 pout (pa_cons pe_str pa_nil)))
      (pss_cons (ps_set (i := 2) scStmtR.nd rfl (.inl rfl) (ci A6 hr2 pass0 (pa_cons (cm0 (pv 0) Tr.cl A5 hr3 pout) pa_nil)))
      (pss_cons (ps_expr (cm (pv 0) Tr.cl A1 hr2 pout (pa_cons pe_str pa_nil)))
      (pss_one (ps_ret (pv 2)))))))), ?_⟩
    obtain ⟨t, l, hl⟩ := endy_ne hen
    obtain ⟨j, h1⟩ := R.obj
    have h0 := h
    rw [hl] at h
    refine ⟨_, rfl, x.r, x.dx, _, rfl, h1, readerF_no (by decide), x, G, s, t, l, rfl, R, hl, rfl, _, rfl, ?_⟩
    refine ited (fun q => ?_) (fun q => ?_)
    · have e : kindS t.tok = "when" := V.str.inj q
      exact ⟨_, rfl, x.r, x.dx, _, rfl, h1, readerF_no (by decide), _, rfl, x, G, s, n, t, l, rfl, R, hen, hn, hl, e, h0⟩
    · have nw : kindS t.tok ≠ "when" := fun z => q (by rw [z])
      refine ⟨_, rfl, x.r, x.dx, _, rfl, h1, readerF_no (by decide), x, G, s, t, l, rfl, R, hl, rfl, _, rfl, ?_⟩
      refine ited (fun q => ?_) (fun q => ?_)
      · have e : kindS t.tok = "make" := V.str.inj q
        rw [takeOne_make e] at h
        exact ⟨_, rfl, x.r, x.dx, _, rfl, h1, readerF_no (by decide), x, G, s, t, l, rfl, R, hen, hl, e, by rw [hl]; exact h⟩
      · have nm : kindS t.tok ≠ "make" := fun z => q (by rw [z])
        refine ⟨_, rfl, x.r, x.dx, _, rfl, h1, readerF_no (by decide), x, G, s, t, l, rfl, R, hl, rfl, _, rfl, ?_⟩
        refine ited (fun q => ?_) (fun q => ?_)
        · have e : kindS t.tok = "call" := V.str.inj q
          rw [takeOne_call e] at h
          exact ⟨_, rfl, x.r, x.dx, _, rfl, h1, readerF_no (by decide), x, G, s, t, l, rfl, R, hen, hl, e, h⟩
        · have nc : kindS t.tok ≠ "call" := fun z => q (by rw [z])
          refine ⟨_, rfl, x.r, x.dx, _, rfl, h1, readerF_no (by decide), x, G, s, t, l, _, rfl, R, hl, fun e H0 p0 R0 f0 _ => ?_, fun ne => ?_⟩
          · rw [takeOne_say e] at h
            have hen0 : Endy l := by
              rw [hl] at hen
              exact endy_cons hen (fun z => by rw [z] at e; exact absurd e (by decide +kernel))
            have hll : s.l.length = l.length + 1 := by rw [hl, List.length_cons]
            obtain ⟨t1, l1, rfl⟩ := endy_ne hen0
            obtain ⟨j1, h2⟩ := R0.obj
            refine ⟨_, rfl, x.r, x.dx, _, rfl, h2, readerF_no (by decide), x, G, s.to (t1 :: l1), t1, l1, rfl, R0, rfl, ?_⟩
            show match Vakepa.takeNat 99 (t1 :: l1) with
              | .error f => FX c x H0 E f.code f.place
              | .ok (n, m) => _
            cases e1 : Vakepa.takeNat 99 (t1 :: l1) with
            | error f =>
              rw [e1] at h
              exact FX.from (c := c) (x := x) h f0
            | ok km =>
              obtain ⟨kk, m⟩ := km
              rw [e1] at h
              have hm : m = l1 := by
                obtain ⟨pl, tk⟩ := t1
                cases tk with
                | num n =>
                  have e1 : (if n < 1 ∨ 99 < n then Except.error ⟨7, pl⟩ else .ok (n, l1) : Except VakepBase.Fault (Nat × Toks)) = .ok (kk, m) := e1
                  by_cases z : n < 1 ∨ 99 < n
                  · rw [if_pos z] at e1
                    cases e1
                  · rw [if_neg z] at e1
                    cases e1
                    rfl
                | name b => cases e1
                | sign b => cases e1
                | last => cases e1
              subst hm
              have hen1 : Endy m := endy_cons hen0 (fun z => by
                obtain ⟨pl, tk⟩ := t1
                have z : tk = .last := z
                subst z
                cases e1)
              intro H1 R1 f1
              have R1 : RdAt c x G H1 (s.to m) := R1
              have f01 := f0.trans f1
              obtain ⟨t2, l2, rfl⟩ := endy_ne hen1
              refine fun o dx ho hdx hne => ⟨o, dx, [.int kk], rfl, rfl, upd_same, fun H2 h4 fr => ⟨rfl, ?_⟩⟩
              have sm : Same H1 H2 := Same.made ho hdx fr
              have R2 := R1.made ho h4 sm
              have f02 : Fr x H H2 := f01.trans (Fr.of sm)
              have hHo : H o = none := f01.2 _ ho
              have hGo : G o = none := R.sub.free hHo
              have E2 : Ext x G H (upd G o (.ins c.say dx (sayF kk))) H2 := Ext.put (o := .ins c.say dx (sayF kk)) (Ext.of f01) hHo hGo f02
              obtain ⟨j2, h5⟩ := R2.obj
              have h : itemEnds c x G H s ((VakepBase.takeSign 59 (t2 :: l2)).map fun r => (.say kk, r)) Q E := h
              rw [takeSign_is (s := ";") (by decide +kernel)] at h
              refine ⟨_, rfl, x.r, x.dx, _, rfl, h5, readerF_no (by decide), x, _, s.to (t2 :: l2), t2, l2, _, rfl, R2, rfl, fun e2 H3 p3 R3 f3 _ => ?_, fun ne2 => ?_⟩
              · rw [if_pos e2] at h
                have ne2 : t2.tok ≠ .last := fun z => by rw [z] at e2; exact absurd e2 (by decide +kernel)
                rw [List.length_cons, List.length_cons] at hll
                refine ⟨_, rfl, h _ H3 o (E2.trans (Ext.of f3)) ?_ (endy_cons hen1 ne2) (by show l2.length < s.l.length; omega) ⟨dx, upd_same⟩⟩
                have z : s.called ++ callsI (Item.say kk) = s.called := List.append_nil _
                rw [z]
                exact R3
              · rw [if_neg ne2] at h
                exact FX.from (c := c) (x := x) h f02
          · rw [takeOne_no ne nc nm nw] at h
            exact h
theorem scBodyR : FnScope ["self", "around", "body"] ["self", "around"] (defScope s_Reader_read_body) := ⟨rfl, rfl, rfl, by decide +kernel, rfl, by decide +kernel, by decide +kernel⟩
theorem ok_bodyR {fF : Addr} (T : RdT K mg c fF) {d k : Nat} (hk : 2 ≤ k) (D : MethAt K c.reader "read_body" "Reader.read_body" s_Reader_read_body) (A1 : OkM P w K mg base (L2.CX P w) 2 c.reader "take" ["self", "kind"] (spTake c)) (A2 : OkM P w K mg base CX0 2 c.reader "skip" ["self", "kind"] (spSkip c))
    (A3 : OkM P w K mg base (L2.CX P w) k c.reader "read_statement" ["self", "around"] (spStmtR c d)) : OkM P w K mg base (L2.CX P w) (k + 1) c.reader "read_body" ["self", "around"] (spBodyR c d) := by
  refine OkM.mk' D (fun f fd F => F.okX scBodyR (fun vs H Q E h => ?_) (fun cdv A outer s0 H vs Q E hr h => ?_)) (fun _ _ _ _ _ _ us hl => match us, hl with | [_, _], _ => rfl)
  · obtain ⟨x, G, s, n, rfl, _⟩ := h
    rfl
  · obtain ⟨x, G, s, n, rfl, R, hen, hn, h⟩ := h
    have Tr := T.cs.reader
    have hr2 : Room 2 _ := hr.mono hk
    refine ⟨_, pss_cons (ps_expr (cm (pv 0) Tr.cl A1 hr2 pout (pa_cons pe_str pa_nil)))
      (pss_cons (ps_set (i := 2) scBodyR.nd rfl (.inl rfl) (pe_lst pa_nil))
      (pss_cons (ps_while (passes_of rfl) (pt_not (pt_val (cm (pv 0) Tr.cl A2 hr2 pass0 (pa_cons pe_str pa_nil))))
        (pss_one (ps_expr (pe_bm PySem.F.plainAttrs_list PySem.F.slot_list_append PySem.F.type_list_append mt_append (pv 2) (pa_cons (cm (pv 0) Tr.cl A3 hr pout (pa_cons (pv 1) pa_nil)) pa_nil)))))
      (pss_one (ps_ret (pv 2))))), ?_⟩
    have hsz : sizeLine = 16777216 := sizeLine_eq
    obtain ⟨t0, l0, hl0⟩ := endy_ne hen
    obtain ⟨j0, h0⟩ := R.obj
    have hll0 : s.l.length = l0.length + 1 := by rw [hl0, List.length_cons]
    have hbig := R.big
    rw [hl0, takeSign_is (s := "{") (by decide +kernel)] at h
    refine ⟨_, rfl, x.r, x.dx, _, rfl, h0, readerF_no (by decide), x, G, s, t0, l0, _, rfl, R, hl0, fun e0 H0 p0 R0 f0 _ => ?_, fun ne => ?_⟩
    · rw [if_pos e0] at h
      have hen0 : Endy l0 := by
        rw [hl0] at hen
        exact endy_cons hen (fun z => by rw [z] at e0; exact absurd e0 (by decide +kernel))
      have h : bodyEnds c x G H s (Vakepa.takeStmts s.sets n d l0) Q E := h
      refine ⟨Nat.zero_le _, fun wl hwl => ?_⟩
      have nm := R0.notMut hwl
      have hGw : G wl = none := R0.sub.free hwl
      have hHw : H wl = none := f0.2 _ hwl
      have R1 := R0.other (o := .lst []) nm hGw
      have f1 : Fr x H (upd H0 wl (.lst [])) := f0.other hHw
      refine wh (fun m σ H' => ∃ (G' : Hp) (its : List Item) (os : List Addr) (l' : Toks) (n' : Nat), σ = [some (.ref x.r), some (.int d), some (.ref wl)] ∧ Ext x G H G' H' ∧ G' wl = none ∧ RdAt c x G' H' (s.wc l' (s.called ++ its.flatMap callsI)) ∧ H' wl = some (.lst (os.map V.ref)) ∧ All2 (ItemAt c s.sets G') os its ∧ Endy l' ∧
          l'.length < n' ∧ its.length + l'.length ≤ l0.length ∧ Vakepa.takeStmts s.sets n d l0 = (Vakepa.takeStmts s.sets n' d l').map (fun r => (linkTo its r.1, r.2)) ∧ m = l'.length)
        (fun σ H' => ∃ (G' : Hp) (its : List Item) (os : List Addr) (l' : Toks), σ = [some (.ref x.r), some (.int d), some (.ref wl)] ∧ Ext x G H G' H' ∧ G' wl = none ∧ RdAt c x G' H' (s.wc l' (s.called ++ its.flatMap callsI)) ∧ H' wl = some (.lst (os.map V.ref)) ∧ All2 (ItemAt c s.sets G') os its ∧ Endy l' ∧
          l'.length < s.l.length ∧ Vakepa.takeStmts s.sets n d l0 = .ok (linkTo its .done, l')) _
        ⟨G, [], [], l0, n, rfl, Ext.of f1, hGw, ?_, upd_same, .nil, hen0, by omega, by rw [List.length_nil]; omega, ?_, rfl⟩ ?_ ?_
      · have z : s.called ++ ([] : List Item).flatMap callsI = s.called := List.append_nil _
        rw [z]
        exact R1
      · cases Vakepa.takeStmts s.sets n d l0 <;> rfl
      · rintro σ H' ⟨G', its, os, l', rfl, E', hG'w, R', hw', ha, hen', hlt, e1⟩
        rw [e1] at h
        have sG : Same G' (upd G' wl (.lst (os.map V.ref))) := Same.new hG'w
        refine ⟨_, rfl, h _ H' wl (os.map V.ref) (Ext.put (o := .lst (os.map V.ref)) E' hHw hGw E'.fr) ?_ hen' hlt upd_same (raw_all (ha.imp fun _ _ q => q.same sG))⟩
        rw [calls_linkTo]
        have z : s.called ++ (its.flatMap callsI ++ callsOf Vakepa.Raw.done) = s.called ++ its.flatMap callsI := by
          show s.called ++ (its.flatMap callsI ++ []) = _
          rw [List.append_nil]
        rw [z]
        exact R'.add hw' nm hG'w
      · rintro fin m σ H' ⟨G', its, os, l', n', rfl, E', hG'w, R', hw', ha, hen', hn', hcnt, e1, rfl⟩
        obtain ⟨t, l, rfl⟩ := endy_ne hen'
        obtain ⟨j, h1⟩ := R'.obj
        obtain ⟨n', rfl⟩ : ∃ k, n' = k + 1 := ⟨n' - 1, by rw [List.length_cons] at hn'; omega⟩
        rw [takeStmts_one, nextSign_is (s := "}") (by decide +kernel)] at e1
        refine ⟨_, rfl, x.r, x.dx, _, rfl, h1, readerF_no (by decide), ?_⟩
        refine ⟨x, G', _, t, l, _, rfl, R', rfl, fun e H1 R2 f2 => ?_, fun ne => ?_⟩
        · rw [decide_eq_true e, if_pos rfl] at e1
          refine ⟨_, rfl, iteF ?_⟩
          have nl : t.tok ≠ .last := fun z => by rw [z] at e; exact absurd e (by decide +kernel)
          refine fin _ _ ⟨G', its, os, l, rfl, E'.trans (Ext.of f2), hG'w, R2, f2.1 _ _ hw' nm, ha, endy_cons hen' nl, ?_, e1⟩
          rw [List.length_cons] at hcnt
          omega
        · rw [decide_eq_false ne, if_neg Bool.false_ne_true] at e1
          refine ⟨_, rfl, iteT ⟨_, fun _ _ z => z, ?_⟩⟩
          refine ⟨_, rfl, .inl ⟨rfl, _, SqL.of hw'⟩, _, rfl, x.r, x.dx, _, rfl, h1, readerF_no (by decide), _, rfl, ?_⟩
          refine ⟨x, G', _, n', rfl, R', hen', (by have z : (t :: l).length < n' + 1 := hn'; show (t :: l).length ≤ n'; omega), ?_⟩
          show itemEnds c x G' H' (s.wc (t :: l) (s.called ++ its.flatMap callsI)) (takeOne s.sets n' d (t :: l)) _ E
          cases q : takeOne s.sets n' d (t :: l) with
          | error f =>
            rw [q] at e1
            have e1 : Vakepa.takeStmts s.sets n d l0 = .error f := e1
            rw [e1] at h
            exact FX.from (c := c) (x := x) h E'.fr
          | ok im =>
            obtain ⟨i, m⟩ := im
            rw [q] at e1
            intro G2 H2 o E2 R2 hen2 hlen2 hit
            have hlen2 : m.length < (t :: l).length := hlen2
            have hw2 := E2.fr.1 _ _ hw' nm
            have hol : (List.map V.ref os).length ≤ 5000 := by
              rw [List.length_map, ha.len]
              omega
            refine ⟨wl, _, _, rfl, rfl, hw2, (by omega), ?_⟩
            have E02 := E'.trans E2
            have hG2w : G2 wl = none := by
              cases z : G2 wl with
              | none => rfl
              | some o =>
                rcases E2.new _ _ z with q | q
                · rw [hG'w] at q
                  cases q
                · rw [hw'] at q
                  cases q
            refine ⟨_, hlen2, G2, its ++ [i], os ++ [o], m, n', rfl, ⟨E02.sub, E02.new, E02.fr.other hHw⟩, hG2w, ?_, ?_, All2.snoc hit (ha.imp fun _ _ q => q.same E2.sub), hen2, by omega, ?_, ?_, rfl⟩
            · have z : s.called ++ (its ++ [i]).flatMap callsI = (s.called ++ its.flatMap callsI) ++ callsI i := by
                rw [List.flatMap_append, List.append_assoc]
                simp
              rw [z]
              exact R2.other nm hG2w
            · rw [upd_same, List.map_append]
              rfl
            · rw [List.length_append, List.length_singleton]
              omega
            · rw [e1]
              show (((Vakepa.takeStmts s.sets n' d m).map fun x => (link i x.1, x.2))).map _ = _
              cases Vakepa.takeStmts s.sets n' d m with
              | error f => rfl
              | ok r =>
                show Except.ok (linkTo its (link i r.1), r.2) = Except.ok (linkTo (its ++ [i]) r.1, r.2)
                rw [linkTo_snoc]
    · rw [if_neg ne] at h
      exact h
end
end Pk
end
section
set_option Elab.async false
set_option linter.all false
set_option maxRecDepth 100000
set_option maxHeartbeats 4000000
namespace Pk
open PySem PySem.Spec PyProof.Rows L2
open Vakepa (Piece Part Prog Raw RawPart)
open VakepBase (PTok Toks PName RESERVED word tokEq)
section
variable {P : Program} {w : World} {K : PySem.W.Frag} {mg : Str → Option Value} {base : Heap} {c : Cs}
/-- bodies, at every depth -/
theorem all_bodies {fF : Addr} (T : RdT K mg c fF) (DB : MethAt K c.reader "read_body" "Reader.read_body" s_Reader_read_body) (DS : MethAt K c.reader "read_statement" "Reader.read_statement" s_Reader_read_statement) (DW : MethAt K c.reader "read_when" "Reader.read_when" s_Reader_read_when)
    (A0 : OkM P w K mg base CX0 1 c.reader "kind_ahead" ["self"] (spKind c)) (A1 : OkM P w K mg base (L2.CX P w) 2 c.reader "take" ["self", "kind"] (spTake c)) (A2 : OkM P w K mg base CX0 2 c.reader "skip" ["self", "kind"] (spSkip c)) (A3 : OkM P w K mg base (L2.CX P w) 3 c.reader "take_known" ["self", "names"] (spKnown c))
    (A4 : OkM P w K mg base (L2.CX P w) 4 c.reader "read_make" ["self"] (spMakeR c)) (A5 : OkM P w K mg base (L2.CX P w) 4 c.reader "read_call" ["self"] (spCallR c)) (A6 : OkM P w K mg base (L2.CX P w) 3 c.reader "take_size" ["self"] (spSize c))
    (I1 : OkI P w K mg base CX0 1 c.say "Say" ["self", "number"] (spI c.say (mk1 "number") 1)) (I2 : OkI P w K mg base CX0 1 c.when_ "When" ["self", "setting", "word", "body"] (spI c.when_ (mk3 "setting" "word" "body") 3)) :
    ∀ m, m ≤ 3 → OkM P w K mg base (L2.CX P w) (6 + 3 * m) c.reader "read_body" ["self", "around"] (spBodyR c (3 - m))
  | 0, _ => by
    have B : OkM P w K mg base (L2.CX P w) 3 c.reader "read_body" ["self", "around"] (spBodyP c 3) := OkM.none DB fun _ _ _ _ _ _ us hl => match us, hl with | [_, _], _ => rfl
    exact ok_bodyR T (by decide) DB A1 A2 (ok_stmtR T (by decide) DS A0 A1 (ok_whenR T (by decide) DW A1 A3 B I2) A4 A5 A6 I1)
  | m + 1, h => by
    have ih := all_bodies T DB DS DW A0 A1 A2 A3 A4 A5 A6 I1 I2 m (by omega)
    have e : spBodyP c (3 - (m + 1)) = spBodyR c (3 - m) := by
      unfold spBodyP
      rw [if_neg (by omega)]
      have : 3 - (m + 1) + 1 = 3 - m := by omega
      rw [this]
    have z : 6 + 3 * (m + 1) = 6 + 3 * m + 1 + 1 + 1 := by omega
    rw [z]
    exact ok_bodyR T (by omega) DB A1 A2 (ok_stmtR T (by omega) DS A0 A1 (ok_whenR T (by omega) DW A1 A3 (by rw [e]; exact ih) I2) A4 A5 A6 I1)
/-! ### read_settings -/
def RdS.ws (s : RdS) (l : Toks) (ss : List VSet) (kvs : List (Key × V)) : RdS := ⟨l, ss, kvs, s.names, s.parts, s.os, s.starts, s.called⟩
def setsEnds (c : Cs) (x : RA) (G H : Hp) (s : RdS) (r : Except VakepBase.Fault (List VSet × Toks)) (Q : VK) (E : XK) : Prop := match r with
  | .error f => FX c x H E f.code f.place
  | .ok (ss, m) => ∀ (G' H' : Hp) (kvs : List (Key × V)), Ext x G H G' H' → RdAt c x G' H' (s.ws m ss kvs) → Endy m → m.length ≤ s.l.length → Q .non H'
def spSets (c : Cs) : Sp := fun vs H Q E => ∃ (x : RA) (G : Hp) (s : RdS), vs = [.ref x.r] ∧ RdAt c x G H s ∧ Endy s.l ∧ s.sets = [] ∧ s.kvs = [] ∧ s.parts = [] ∧ s.os = [] ∧ setsEnds c x G H s (Vakepa.takeSets (s.l.length + 1) [] s.l) Q E
theorem scSets : FnScope ["self", "settings", "token"] ["self"] (defScope s_Reader_read_settings) := ⟨rfl, rfl, rfl, by decide +kernel, rfl, by decide +kernel, by decide +kernel⟩
theorem RdAt.addSet {x : RA} {G H : Hp} {s : RdS} {b : By} {wl : Addr} {ws : List By} (R : RdAt c x G H s) (hp : s.parts = []) (ho : s.os = []) (hw : G wl = some (.lst (ws.map sV))) :
    RdAt c x G (upd H x.ds (.dK (s.kvs ++ [(kS b, .ref wl)]))) (s.ws s.l (s.sets ++ [⟨b, ws⟩]) (s.kvs ++ [(kS b, .ref wl)])) := by
  obtain ⟨n1, _, _, _, _, n6, n7, n8, n9, _⟩ := mut_ne R
  obtain ⟨j, as, all, h1, h2⟩ := R.toks
  obtain ⟨qs, q1, q2⟩ := R.q
  refine ⟨fun a u e => by rw [upd_ne (ne_of_none e (R.free _ mem_ds))]; exact R.sub a u e, R.free, R.nd, ⟨j, as, all, (upd_ne n1).trans h1, h2⟩, R.prog, upd_same, R.sets.snoc ⟨rfl, wl, rfl, hw⟩, (upd_ne (Ne.symm n6)).trans R.dn, (upd_ne (Ne.symm n7)).trans R.lp, ?_, (upd_ne (Ne.symm n8)).trans R.le, ⟨qs, (upd_ne (Ne.symm n9)).trans q1, q2⟩, R.big⟩
  show All2 _ s.os s.parts
  rw [hp, ho]
  exact .nil
theorem any_find (ss : List VSet) (b : By) : ss.any (fun s => s.name == b) = (ss.findIdx? fun z => z.name == b).isSome := by
  rw [List.findIdx?_isSome]
theorem takeSets_no {n : Nat} {ss : List VSet} {t : PTok} {l : Toks} (h : kindS t.tok ≠ "set") : Vakepa.takeSets (n + 1) ss (t :: l) = .ok (ss, t :: l) := by
  rw [Vakepa.takeSets, nextWord_is (by decide), decide_eq_false h, if_neg Bool.false_ne_true]
theorem takeSets_ok {n : Nat} {ss : List VSet} {t : PTok} {l : Toks} (h : kindS t.tok = "set") : Vakepa.takeSets (n + 1) ss (t :: l) = if 3 ≤ ss.length then .error ⟨4, t.place⟩ else (VakepBase.takeName l).bind fun x => if ss.any (fun s => s.name == x.1.name) = true then .error ⟨5, x.1.place⟩ else (VakepBase.takeSign 58 x.2).bind fun r => (Vakepa.takeValues (r.length + 1) [] r).bind fun v => Vakepa.takeSets n (ss ++ [⟨x.1.name, v.1⟩]) v.2 := by
  rw [Vakepa.takeSets, nextWord_is (by decide), decide_eq_true h, if_pos rfl]
  rfl
theorem ok_sets {fF : Addr} (T : RdT K mg c fF) (D : MethAt K c.reader "read_settings" "Reader.read_settings" s_Reader_read_settings) (A0 : OkM P w K mg base CX0 1 c.reader "kind_ahead" ["self"] (spKind c)) (A1 : OkM P w K mg base (L2.CX P w) 2 c.reader "take" ["self", "kind"] (spTake c))
    (A2 : OkM P w K mg base (L2.CX P w) 3 c.reader "take_within" ["self", "kind", "told", "most"] (spWithin c)) (A3 : OkM P w K mg base (L2.CX P w) 4 c.reader "read_words" ["self"] (spWordsR c)) : OkM P w K mg base (L2.CX P w) 5 c.reader "read_settings" ["self"] (spSets c) := by
  refine OkM.mk' D (fun f fd F => F.okX scSets (fun vs H Q E h => ?_) (fun cdv A outer s0 H vs Q E hr h => ?_)) (fun _ _ _ _ _ _ us hl => match us, hl with | [_], _ => rfl)
  · obtain ⟨x, G, s, rfl, _⟩ := h
    rfl
  · obtain ⟨x, G, s, rfl, R, hen, hs0, hk0, hp0, ho0, h⟩ := h
    have Tr := T.cs.reader
    have hr1 : Room 1 _ := hr.mono (by decide)
    have hr2 : Room 2 _ := hr.mono (by decide)
    have hr3 : Room 3 _ := hr.mono (by decide)
    have hu := hu_of hr
    refine ⟨_, pss_cons (ps_set (i := 1) scSets.nd rfl (.inl rfl) (pe_fld (pe_fld (pv 0) rfl) rfl))
      (pss_one (ps_while (passes_of rfl) (pt_cmpR op_eq (cm0 (pv 0) Tr.cl A0 hr1 pass0) pe_str (nomark _))
        (pss_cons (ps_expr (cm (pv 0) Tr.cl A2 hr3 pout (pa_cons pe_str (pa_cons (pe_callB call_lenD (by rfl) T.len PySem.boot_len (pa_cons (pv 1) pa_nil)) (pa_cons (gi T.ms) pa_nil)))))
        (pss_cons (ps_set (i := 2) scSets.nd rfl (.inl rfl) (cm (pv 0) Tr.cl A1 hr2 pout (pa_cons pe_str pa_nil)))
        (pss_cons (ps_if (pt_cmp (pc_din hu (pe_fld (pv 2) rfl) (pv 1)) (by rfl)) (pss_one (ps_raiseF rfl T.ft hr3 (takes_of rfl rfl rfl rfl) (by exact (pa_cons (gi T.e5) (pa_cons (pe_fld (pv 2) rfl) pa_nil))))) pss_nil)
        (pss_cons (ps_expr (cm (pv 0) Tr.cl A1 hr2 pout (pa_cons pe_str pa_nil)))
        (pss_one (ps_dput hu (pv 1) (pe_fld (pv 2) rfl) (cm0 (pv 0) Tr.cl A3 hr pout) rfl)))))))), ?_⟩
    have hsz : sizeLine = 16777216 := sizeLine_eq
    obtain ⟨gx, hg⟩ := R.prog
    obtain ⟨j0, h0⟩ := R.obj
    refine ⟨_, rfl, x.r, c.reader, x.dx, _, _, rfl, h0, Tr.cl, Tr.no _ (by decide), readerF_g, x.g, c.prog, gx, _, _, rfl, R.sub _ _ hg, T.cs.prog.cl, T.cs.prog.no _ (by decide), progF_s, ?_⟩
    refine ⟨fun m σ H' => ∃ (tok : Option V) (G' : Hp) (ss : List VSet) (kvs : List (Key × V)) (l' : Toks) (n : Nat), σ = [some (.ref x.r), some (.ref x.ds), tok] ∧ Ext x G H G' H' ∧ RdAt c x G' H' (s.ws l' ss kvs) ∧ Endy l' ∧ ss.length ≤ 3 ∧ l'.length ≤ s.l.length ∧ l'.length < n ∧
        Vakepa.takeSets (s.l.length + 1) [] s.l = Vakepa.takeSets n ss l' ∧ m = l'.length,
      ⟨_, none, G, [], [], s.l, s.l.length + 1, rfl, Ext.of Fr.refl, ?_, hen, by decide, Nat.le_refl _, by omega, rfl, rfl⟩, ?_⟩
    · have z : s.ws s.l [] [] = s := by
        unfold RdS.ws
        rw [← hs0, ← hk0]
      rw [z]
      exact R
    · rintro m σ H' ⟨tok, G', ss, kvs, l', n, rfl, E', R', hen', hs3, hll, hn, e1, rfl⟩
      obtain ⟨t, l, rfl⟩ := endy_ne hen'
      obtain ⟨j, h1⟩ := R'.obj
      obtain ⟨n, rfl⟩ : ∃ k, n = k + 1 := ⟨n - 1, by rw [List.length_cons] at hn; omega⟩
      have hkl : kvs.length = ss.length := R'.sets.len
      refine ⟨_, rfl, x.r, x.dx, _, rfl, h1, readerF_no (by decide), x, G', _, t, l, rfl, R', rfl, rfl, _, rfl, ?_⟩
      refine ited (fun q => ⟨_, fun _ _ z => z, ?_⟩) (fun q => ?_)
      · have e : kindS t.tok = "set" := V.str.inj q
        have hen1 : Endy l := endy_cons hen' (fun z => by rw [z] at e; exact absurd e (by decide +kernel))
        obtain ⟨t1, l1, rfl⟩ := endy_ne hen1
        rw [takeSets_ok e] at e1
        refine ⟨_, rfl, x.r, x.dx, _, rfl, h1, readerF_no (by decide), _, rfl, x.ds, _, rfl, R'.ds, ?_⟩
        refine ⟨x, G', _, t, t1 :: l1, _, ss.length, 3, ?_, R', rfl, hs3, fun _ hlt H1 p R1 f1 _ => ?_, fun ne => absurd e ne, fun _ hge => ?_⟩
        · show _ = [V.ref x.r, V.str "set", V.int (ss.length : Int), V.int 3]
          rw [← hkl]
          rfl
        · rw [if_neg (by omega)] at e1
          have R1 : RdAt c x G' H1 (s.ws (t1 :: l1) ss kvs) := R1
          obtain ⟨j1, h2⟩ := R1.obj
          have f01 := E'.fr.trans f1
          refine ⟨_, rfl, x.r, x.dx, _, rfl, h2, readerF_no (by decide), x, G', _, t1, l1, _, rfl, R1, rfl, fun e2 H2 p2 R2 f2 ht => ?_, fun ne => ?_⟩
          · obtain ⟨b, hb, hres⟩ := kind_name.mp e2
            obtain ⟨pl, tk⟩ := t1
            have hb : tk = .name b := hb
            subst hb
            have hen2 : Endy l1 := endy_cons hen1 (by intro z; cases z)
            obtain ⟨t2, l2, rfl⟩ := endy_ne hen2
            have R2 : RdAt c x G' H2 (s.ws (t2 :: l2) ss kvs) := R2
            rw [takeName_ok hres] at e1
            have e1 : Vakepa.takeSets (s.l.length + 1) [] s.l = (if ss.any (fun s => s.name == b) = true then .error ⟨5, pl⟩ else (VakepBase.takeSign 58 (t2 :: l2)).bind fun r => (Vakepa.takeValues (r.length + 1) [] r).bind fun v => Vakepa.takeSets n (ss ++ [⟨b, v.1⟩]) v.2) := e1
            obtain ⟨af, tx, h5⟩ := ht
            have h5' := R2.sub _ _ h5
            have tt : (tokF (kindS (.name b)) pl af (textS (.name b)) (numS (.name b))).lookup ("text" : Str) = some (.str (toStr b)) := by rw [name_text hres]; exact tokF_text
            have f02 := f01.trans f2
            refine ⟨_, rfl, p2, c.tok, tx, _, _, rfl, h5', T.cs.tok.cl, T.cs.tok.text, tt, _, rfl, x.ds, _, rfl, DGet.k (k := kS b) R2.ds, _, rfl, ?_⟩
            have sv := sets_val b R2.sets
            rw [any_find] at e1
            cases q1 : ss.findIdx? fun z => z.name == b with
            | some k =>
              have q1' : ((s.ws (t2 :: l2) ss kvs).sets.findIdx? fun z => z.name == b) = some k := q1
              rw [q1'] at sv
              obtain ⟨a, st, _, _, sv, _⟩ := sv
              rw [sv]
              refine iteT ?_
              rw [q1, if_pos (show (some k).isSome = true from rfl)] at e1
              rw [e1] at h
              exact ⟨_, rfl, p2, c.tok, tx, _, _, rfl, h5', T.cs.tok.cl, T.cs.tok.place, tokF_place, _, _, rfl, fun d hd => FX.now h f02 hd⟩
            | none =>
              have q1' : ((s.ws (t2 :: l2) ss kvs).sets.findIdx? fun z => z.name == b) = none := q1
              rw [q1'] at sv
              have sv : valV kvs (kS b) = none := sv
              have sv2 : valV (s.ws (t2 :: l2) ss kvs).kvs (kS b) = none := sv
              rw [sv2]
              refine iteF ?_
              rw [q1, if_neg (by decide), takeSign_is (s := ":") (by decide +kernel)] at e1
              obtain ⟨j2, h3⟩ := R2.obj
              refine ⟨_, rfl, x.r, x.dx, _, rfl, h3, readerF_no (by decide), x, G', _, t2, l2, _, rfl, R2, rfl, fun e3 H3 p3 R3 f3 _ => ?_, fun ne => ?_⟩
              · rw [if_pos e3] at e1
                have hen3 : Endy l2 := endy_cons hen2 (fun z => by rw [z] at e3; exact absurd e3 (by decide +kernel))
                have R3 : RdAt c x G' H3 (s.ws l2 ss kvs) := R3
                have f03 := f02.trans f3
                obtain ⟨j3, h4⟩ := R3.obj
                refine ⟨_, rfl, x.r, x.dx, _, rfl, h4, readerF_no (by decide), x, G', _, rfl, R3, hen3, ?_⟩
                have e1 : Vakepa.takeSets (s.l.length + 1) [] s.l = ((Vakepa.takeValues (l2.length + 1) [] l2).bind fun v => Vakepa.takeSets n (ss ++ [⟨b, v.1⟩]) v.2) := e1
                show wordsEnds c x G' H3 (s.ws l2 ss kvs) (Vakepa.takeValues (l2.length + 1) [] l2) _ E
                cases q4 : Vakepa.takeValues (l2.length + 1) [] l2 with
                | error f =>
                  rw [q4] at e1
                  have e1 : Vakepa.takeSets (s.l.length + 1) [] s.l = .error f := e1
                  rw [e1] at h
                  exact FX.from (c := c) (x := x) h f03
                | ok wm =>
                  obtain ⟨ws, mm⟩ := wm
                  rw [q4] at e1
                  have e1 : Vakepa.takeSets (s.l.length + 1) [] s.l = Vakepa.takeSets n (ss ++ [⟨b, ws⟩]) mm := e1
                  intro hen4 hlen4 H4 wl R4 f4 hwl hw4
                  have hlen4 : mm.length < l2.length := hlen4
                  have R4 : RdAt c x G' H4 (s.ws mm ss kvs) := R4
                  have f04 := f03.trans f4
                  have hHw : H wl = none := f03.2 _ hwl
                  have nmw := R3.notMut hwl
                  have hGw : G' wl = none := R3.sub.free hwl
                  have R5 : RdAt c x (upd G' wl (.lst (ws.map sV))) H4 (s.ws mm ss kvs) := R4.add hw4 nmw hGw
                  have E5 : Ext x G H (upd G' wl (.lst (ws.map sV))) H4 := Ext.put (E'.trans (Ext.of ((f1.trans f2).trans (f3.trans f4)))) hHw (R.sub.free hHw) f04
                  have R6 : RdAt c x (upd G' wl (.lst (ws.map sV))) (upd H4 x.ds (.dK (kvs ++ [(kS b, .ref wl)]))) (s.ws mm (ss ++ [⟨b, ws⟩]) (kvs ++ [(kS b, .ref wl)])) := R5.addSet (b := b) (ws := ws) (wl := wl) hp0 ho0 upd_same
                  have h5'' := R4.sub _ _ h5
                  refine ⟨_, rfl, _, rfl, p2, c.tok, tx, _, _, rfl, h5'', T.cs.tok.cl, T.cs.tok.text, tt, x.ds, _, rfl, DPut.k (k := kS b) R4.ds ?_, ?_⟩
                  · show kvs.length < sizeLine
                    omega
                  · have z : putK (s.ws mm ss kvs).kvs (kS b) (.ref wl) = kvs ++ [(kS b, .ref wl)] := putK_new _ sv
                    rw [z]
                    rw [List.length_cons, List.length_cons, List.length_cons] at hll hn ⊢
                    refine ⟨_, by omega, some (.ref p2), _, ss ++ [⟨b, ws⟩], kvs ++ [(kS b, .ref wl)], mm, n, rfl, ⟨E5.sub, E5.new, E5.fr.at_mut mem_ds⟩, R6, hen4, ?_, by omega, by omega, e1, rfl⟩
                    rw [List.length_append, List.length_singleton]
                    omega
              · rw [if_neg ne] at e1
                have e1 : Vakepa.takeSets (s.l.length + 1) [] s.l = .error ⟨3, t2.place⟩ := e1
                rw [e1] at h
                exact FX.from (c := c) (x := x) h f02
          · rw [takeName_no ne] at e1
            have e1 : Vakepa.takeSets (s.l.length + 1) [] s.l = .error ⟨3, t1.place⟩ := e1
            rw [e1] at h
            exact FX.from (c := c) (x := x) h f01
        · rw [if_pos hge] at e1
          rw [e1] at h
          exact FX.from (c := c) (x := x) h E'.fr
      · have ne : kindS t.tok ≠ "set" := fun z => q (by rw [z])
        rw [takeSets_no ne] at e1
        rw [e1] at h
        exact h G' H' kvs E' R' hen' hll
end
end Pk
end
section
set_option Elab.async false
set_option linter.all false
set_option maxRecDepth 100000
set_option maxHeartbeats 4000000
namespace Pk
open PySem PySem.Spec PyProof.Rows L2
open Vakepa (Piece Part Prog Raw RawPart)
open VakepBase (PTok Toks PName RESERVED word tokEq)
def takePart (ss : List VSet) (ps : List RawPart) (t : PTok) (l : Toks) : Except VakepBase.Fault (RawPart × Toks) := if 10 ≤ ps.length then .error ⟨4, t.place⟩ else (VakepBase.takeName l).bind fun x => if ps.any (fun p => p.name == x.1.name) = true ∨ ss.any (fun s => s.name == x.1.name) = true then .error ⟨5, x.1.place⟩ else
  (VakepBase.takeWord "size" x.2).bind fun r => (Vakepa.takeNat 99 r).bind fun k => (VakepBase.takeSign 123 k.2).bind fun r => (Vakepa.takeStmts ss (r.length + 1) 0 r).map fun b => (⟨x.1.name, k.1, b.1⟩, b.2)
theorem takeParts_one {ss : List VSet} {n : Nat} {ps : List RawPart} {t : PTok} {l : Toks} (h : kindS t.tok = "part") : Vakepa.takeParts ss (n + 1) ps (t :: l) = (takePart ss ps t l).bind fun q => Vakepa.takeParts ss n (ps ++ [q.1]) q.2 := by
  rw [Vakepa.takeParts, nextWord_is (by decide), decide_eq_true h, if_pos rfl]
  unfold takePart
  by_cases h1 : 10 ≤ ps.length
  · rw [if_pos (show Vakepa.PARTS ≤ ps.length from h1), if_pos h1]
    rfl
  · rw [if_neg (show ¬ Vakepa.PARTS ≤ ps.length from h1), if_neg h1, exc_bind_bind]
    refine exc_bind_congr fun x => ?_
    by_cases h2 : ps.any (fun p => p.name == x.1.name) = true ∨ ss.any (fun s => s.name == x.1.name) = true
    · rw [if_pos h2, if_pos h2]
      rfl
    · rw [if_neg h2, if_neg h2, exc_bind_bind]
      refine exc_bind_congr fun r => ?_
      rw [exc_bind_bind]
      refine exc_bind_congr fun k => ?_
      rw [exc_bind_bind]
      refine exc_bind_congr fun r2 => ?_
      rw [exc_bind_map]
theorem takeParts_no {ss : List VSet} {n : Nat} {ps : List RawPart} {t : PTok} {l : Toks} (h : kindS t.tok ≠ "part") : Vakepa.takeParts ss (n + 1) ps (t :: l) = if ps.isEmpty = true then .error ⟨3, t.place⟩ else .ok (ps, t :: l) := by
  rw [Vakepa.takeParts, nextWord_is (by decide), decide_eq_false h, if_neg Bool.false_ne_true]
  rfl
def RdS.wp (s : RdS) (l : Toks) (ns : List By) (ps : List RawPart) (os : List Addr) (cs : List PName) : RdS := ⟨l, s.sets, s.kvs, ns, ps, os, s.starts, cs⟩
theorem RdAt.addName {c : Cs} {x : RA} {G H : Hp} {s : RdS} (R : RdAt c x G H s) (b : By) : RdAt c x G (upd H x.dn (.dK (numsFrom 0 (s.names ++ [b])))) (s.wp s.l (s.names ++ [b]) s.parts s.os s.called) := by
  obtain ⟨_, n2, _, _, _, n6, _, _, _, n10, n11, n12, _⟩ := mut_ne R
  obtain ⟨j, as, all, h1, h2⟩ := R.toks
  obtain ⟨qs, q1, q2⟩ := R.q
  exact ⟨fun a u e => by rw [upd_ne (ne_of_none e (R.free _ mem_dn))]; exact R.sub a u e, R.free, R.nd, ⟨j, as, all, (upd_ne n2).trans h1, h2⟩, R.prog, (upd_ne n6).trans R.ds, R.sets, upd_same, (upd_ne (Ne.symm n10)).trans R.lp, R.parts, (upd_ne (Ne.symm n11)).trans R.le, ⟨qs, (upd_ne (Ne.symm n12)).trans q1, q2⟩, R.big⟩
theorem RdAt.addPart {c : Cs} {x : RA} {G H : Hp} {s : RdS} (R : RdAt c x G H s) {q : RawPart} {o : Addr} (h : RawPartAt c s.sets G o q) : RdAt c x G (upd H x.lp (.lst (s.os.map V.ref ++ [V.ref o]))) (s.wp s.l s.names (s.parts ++ [q]) (s.os ++ [o]) s.called) := by
  obtain ⟨_, _, n3, _, _, _, n7, _, _, n10, _, _, n13, n14, _⟩ := mut_ne R
  obtain ⟨j, as, all, h1, h2⟩ := R.toks
  obtain ⟨qs, q1, q2⟩ := R.q
  exact ⟨fun a u e => by rw [upd_ne (ne_of_none e (R.free _ mem_lp))]; exact R.sub a u e, R.free, R.nd, ⟨j, as, all, (upd_ne n3).trans h1, h2⟩, R.prog, (upd_ne n7).trans R.ds, R.sets, (upd_ne n10).trans R.dn, by rw [upd_same]; show _ = some (HO.lst ((s.os ++ [o]).map V.ref)); rw [List.map_append]; rfl, R.parts.snoc h, (upd_ne (Ne.symm n13)).trans R.le, ⟨qs, (upd_ne (Ne.symm n14)).trans q1, q2⟩, R.big⟩
section
variable {P : Program} {w : World} {K : PySem.W.Frag} {mg : Str → Option Value} {base : Heap} {c : Cs}
def partEnds (c : Cs) (x : RA) (G H : Hp) (s : RdS) (r : Except VakepBase.Fault (RawPart × Toks)) (Q : VK) (E : XK) : Prop := match r with
  | .error f => FX c x H E f.code f.place
  | .ok (q, m) => ∀ (G' H' : Hp) (o : Addr), Ext x G H G' H' → RdAt c x G' H' (s.wp m (s.names ++ [q.name]) (s.parts ++ [q]) (s.os ++ [o]) (s.called ++ callsOf q.body)) → Endy m → m.length < s.l.length → Q .non H'
def spPart (c : Cs) : Sp := fun vs H Q E => ∃ (x : RA) (G : Hp) (s : RdS) (t : PTok) (l : Toks), vs = [.ref x.r] ∧ RdAt c x G H s ∧ Endy s.l ∧ s.l = t :: l ∧ s.names = (s.parts.map fun q => q.name) ∧ s.parts.length ≤ 10 ∧
  (kindS t.tok ≠ "part" → FX c x H E 3 t.place) ∧ (kindS t.tok = "part" → partEnds c x G H s (takePart s.sets s.parts t l) Q E)
theorem scPart' : FnScope ["self", "program", "token", "size"] ["self"] (defScope s_Reader_read_part) := ⟨rfl, rfl, rfl, by decide +kernel, rfl, by decide +kernel, by decide +kernel⟩
theorem any_names (ps : List RawPart) (b : By) : ps.any (fun p => p.name == b) = ((ps.map fun q => q.name).findIdx? fun y => y == b).isSome := by
  rw [List.findIdx?_isSome, List.any_map]
  rfl
theorem ok_part {fF : Addr} (T : RdT K mg c fF) (D : MethAt K c.reader "read_part" "Reader.read_part" s_Reader_read_part) (A1 : OkM P w K mg base (L2.CX P w) 2 c.reader "take" ["self", "kind"] (spTake c))
    (A2 : OkM P w K mg base (L2.CX P w) 3 c.reader "take_within" ["self", "kind", "told", "most"] (spWithin c)) (A3 : OkM P w K mg base (L2.CX P w) 3 c.reader "take_size" ["self"] (spSize c)) (A4 : OkM P w K mg base (L2.CX P w) 15 c.reader "read_body" ["self", "around"] (spBodyR c 0))
    (A5 : OkI P w K mg base CX0 1 c.part "Part" ["self", "size", "body"] (spI c.part (mk2 "size" "body") 2)) : OkM P w K mg base (L2.CX P w) 16 c.reader "read_part" ["self"] (spPart c) := by
  refine OkM.mk' D (fun f fd F => F.okX scPart' (fun vs H Q E h => ?_) (fun cdv A outer s0 H vs Q E hr h => ?_)) (fun _ _ _ _ _ _ us hl => match us, hl with | [_], _ => rfl)
  · obtain ⟨x, G, s, t, l, rfl, _⟩ := h
    rfl
  · obtain ⟨x, G, s, t, l, rfl, R, hen, hl, hnm, hp10, k1, h⟩ := h
    have Tr := T.cs.reader
    have hr2 : Room 2 _ := hr.mono (by decide)
    have hr3 : Room 3 _ := hr.mono (by decide)
    have hu := hu_of hr
    refine ⟨_, pss_cons (ps_set (i := 1) scPart'.nd rfl (.inl rfl) (pe_fld (pv 0) rfl))
      (pss_cons (ps_expr (cm (pv 0) Tr.cl A2 hr3 pout (pa_cons pe_str (pa_cons (pe_callB call_len_seq (by rfl) T.len PySem.boot_len (pa_cons (pe_fld (pv 1) rfl) pa_nil)) (pa_cons (gi T.mp) pa_nil)))))
      (pss_cons (ps_set (i := 2) scPart'.nd rfl (.inl rfl) (cm (pv 0) Tr.cl A1 hr2 pout (pa_cons pe_str pa_nil)))
      (pss_cons (ps_if (PW.pt (pw_or (pt_cmp (pc_din hu (pe_fld (pv 2) rfl) (pe_fld (pv 1) rfl)) (by rfl)) (pw_or1 (pt_cmp (pc_din hu (pe_fld (pv 2) rfl) (pe_fld (pv 1) rfl)) (by rfl))))) (pss_one (ps_raiseF rfl T.ft hr3 (takes_of rfl rfl rfl rfl) (by exact (pa_cons (gi T.e5) (pa_cons (pe_fld (pv 2) rfl) pa_nil))))) pss_nil)
      (pss_cons (ps_expr (cm (pv 0) Tr.cl A1 hr2 pout (pa_cons pe_str pa_nil)))
      (pss_cons (ps_set (i := 3) scPart'.nd rfl (.inl rfl) (cm0 (pv 0) Tr.cl A3 hr3 pout))
      (pss_cons (ps_dput hu (pe_fld (pv 1) rfl) (pe_fld (pv 2) rfl) (pe_callB call_len_seq (by rfl) T.len PySem.boot_len (pa_cons (pe_fld (pv 1) rfl) pa_nil)) rfl)
      (pss_one (ps_expr (pe_bm PySem.F.plainAttrs_list PySem.F.slot_list_append PySem.F.type_list_append mt_append (pe_fld (pv 1) rfl) (pa_cons (ci A5 hr2 pass0 (pa_cons (pv 3) (pa_cons (cm (pv 0) Tr.cl A4 hr pout (pa_cons pe_int pa_nil)) pa_nil))) pa_nil)))))))))), ?_⟩
    have hsz : sizeLine = 16777216 := sizeLine_eq
    obtain ⟨gx, hg⟩ := R.prog
    obtain ⟨j0, h0⟩ := R.obj
    have hg0 := R.sub _ _ hg
    have hol : s.os.length = s.parts.length := R.parts.len
    have hll : s.l.length = l.length + 1 := by rw [hl, List.length_cons]
    refine ⟨_, rfl, x.r, c.reader, x.dx, _, _, rfl, h0, Tr.cl, Tr.no _ (by decide), readerF_g, ?_⟩
    refine ⟨_, rfl, x.r, x.dx, _, rfl, h0, readerF_no (by decide), _, rfl, x.g, c.prog, gx, _, _, rfl, hg0, T.cs.prog.cl, T.cs.prog.no _ (by decide), progF_p, _, _, rfl, .inl (SqL.of R.lp), ?_⟩
    refine ⟨x, G, s, t, l, _, s.parts.length, 10, ?_, R, hl, hp10, fun e hlt H0 p0 R0 f0 _ => ?_, fun ne => k1 ne, fun e hge => ?_⟩
    · show _ = [V.ref x.r, V.str "part", V.int (s.parts.length : Int), V.int 10]
      rw [← hol, ← List.length_map (as := s.os) (f := V.ref)]
      rfl
    · have h := h e
      have hen0 : Endy l := by
        rw [hl] at hen
        exact endy_cons hen (fun z => by rw [z] at e; exact absurd e (by decide +kernel))
      obtain ⟨t1, l1, rfl⟩ := endy_ne hen0
      unfold takePart at h
      rw [if_neg (by omega)] at h
      obtain ⟨j1, h1⟩ := R0.obj
      refine ⟨_, rfl, x.r, x.dx, _, rfl, h1, readerF_no (by decide), x, G, _, t1, l1, _, rfl, R0, rfl, fun e1 H1 p R1 f1 ht => ?_, fun ne => ?_⟩
      · obtain ⟨b, hb, hres⟩ := kind_name.mp e1
        obtain ⟨pl, tk⟩ := t1
        have hb : tk = .name b := hb
        subst hb
        have hen1 : Endy l1 := endy_cons hen0 (by intro z; cases z)
        obtain ⟨t2, l2, rfl⟩ := endy_ne hen1
        have R1 : RdAt c x G H1 (s.to (t2 :: l2)) := R1
        rw [takeName_ok hres] at h
        have h : partEnds c x G H s (if s.parts.any (fun p => p.name == b) = true ∨ s.sets.any (fun z => z.name == b) = true then .error ⟨5, pl⟩ else (VakepBase.takeWord "size" (t2 :: l2)).bind fun r => (Vakepa.takeNat 99 r).bind fun k => (VakepBase.takeSign 123 k.2).bind fun r => (Vakepa.takeStmts s.sets (r.length + 1) 0 r).map fun z => (⟨b, k.1, z.1⟩, z.2)) Q E := h
        have f01 := f0.trans f1
        obtain ⟨af, tx, h5⟩ := ht
        have h5' := R1.sub _ _ h5
        have hg1 := R1.sub _ _ hg
        have tt : (tokF (kindS (.name b)) pl af (textS (.name b)) (numS (.name b))).lookup ("text" : Str) = some (.str (toStr b)) := by rw [name_text hres]; exact tokF_text
        unfold gName
        dsimp only
        have nv := nums_val 0 s.names b
        refine sif (b := s.sets.any (fun z => z.name == b) || s.parts.any (fun p => p.name == b))
          (ev_or (fun Q q => ⟨_, rfl, p, c.tok, tx, _, _, rfl, h5', T.cs.tok.cl, T.cs.tok.text, tt, _, rfl, x.g, c.prog, gx, _, _, rfl, hg1, T.cs.prog.cl, T.cs.prog.no _ (by decide), progF_s, x.ds, _, rfl, DGet.k (k := kS b) R1.ds, _, rfl, qb q ?_⟩)
            (fun _ Q q => ⟨_, rfl, p, c.tok, tx, _, _, rfl, h5', T.cs.tok.cl, T.cs.tok.text, tt, _, rfl, x.g, c.prog, gx, _, _, rfl, hg1, T.cs.prog.cl, T.cs.prog.no _ (by decide), progF_n, x.dn, _, rfl, DGet.k (k := kS b) R1.dn, _, rfl, qb q ?_⟩)) (fun hb => ?_) (fun hb => ?_)
        · rw [any_find]
          have sv := sets_val b R.sets
          show _ = (valV s.kvs (kS b)).isSome
          cases z : s.sets.findIdx? fun z => z.name == b with
          | none =>
            rw [z] at sv
            have sv : valV s.kvs (kS b) = none := sv
            rw [sv]
            rfl
          | some k =>
            rw [z] at sv
            obtain ⟨a, st, _, _, sv, _⟩ := sv
            rw [sv]
            rfl
        · rw [any_names, ← hnm]
          show _ = (valV (numsFrom 0 s.names) (kS b)).isSome
          rw [nv, Option.isSome_map]
        · rw [if_pos (by rw [Bool.or_eq_true] at hb; exact hb.symm)] at h
          exact ⟨_, rfl, p, c.tok, tx, _, _, rfl, h5', T.cs.tok.cl, T.cs.tok.place, tokF_place, _, _, rfl, fun d hd => FX.now h f01 hd⟩
        · have hbn : ¬ (s.parts.any (fun p => p.name == b) = true ∨ s.sets.any (fun z => z.name == b) = true) := fun z => by
            have : (s.sets.any (fun z => z.name == b) || s.parts.any (fun p => p.name == b)) = true := by rw [Bool.or_eq_true]; exact z.symm
            rw [hb] at this
            cases this
          rw [if_neg hbn, takeWord_is (by decide)] at h
          obtain ⟨j2, h2⟩ := R1.obj
          dsimp only
          refine ⟨_, rfl, x.r, x.dx, _, rfl, h2, readerF_no (by decide), x, G, _, t2, l2, _, rfl, R1, rfl, fun e2 H2 p2 R2 f2 _ => ?_, fun ne => ?_⟩
          · rw [if_pos e2] at h
            have hen2 : Endy l2 := endy_cons hen1 (fun z => by rw [z] at e2; exact absurd e2 (by decide +kernel))
            obtain ⟨t3, l3, rfl⟩ := endy_ne hen2
            have R2 : RdAt c x G H2 (s.to (t3 :: l3)) := R2
            have f02 := f01.trans f2
            obtain ⟨j3, h3⟩ := R2.obj
            refine ⟨_, rfl, x.r, x.dx, _, rfl, h3, readerF_no (by decide), x, G, s.to (t3 :: l3), t3, l3, rfl, R2, rfl, ?_⟩
            have hz : partEnds c x G H s ((Vakepa.takeNat 99 (t3 :: l3)).bind fun k => (VakepBase.takeSign 123 k.2).bind fun r => (Vakepa.takeStmts s.sets (r.length + 1) 0 r).map fun z => (⟨b, k.1, z.1⟩, z.2)) Q E := h
            show match Vakepa.takeNat 99 (t3 :: l3) with
              | .error f => FX c x H2 E f.code f.place
              | .ok (n, m) => _
            cases e3 : Vakepa.takeNat 99 (t3 :: l3) with
            | error f =>
              rw [e3] at hz
              exact FX.from (c := c) (x := x) hz f02
            | ok km =>
              obtain ⟨kk, m⟩ := km
              rw [e3] at hz
              have hm : m = l3 ∧ t3.tok ≠ .last := by
                obtain ⟨pl, tk⟩ := t3
                cases tk with
                | num n =>
                  have e3 : (if n < 1 ∨ 99 < n then Except.error ⟨7, pl⟩ else .ok (n, l3) : Except VakepBase.Fault (Nat × Toks)) = .ok (kk, m) := e3
                  by_cases z : n < 1 ∨ 99 < n
                  · rw [if_pos z] at e3
                    cases e3
                  · rw [if_neg z] at e3
                    cases e3
                    exact ⟨rfl, by intro z; cases z⟩
                | name b => cases e3
                | sign b => cases e3
                | last => cases e3
              obtain ⟨rfl, nl3⟩ := hm
              have hen3 : Endy m := endy_cons hen2 nl3
              intro H3 R3 f3
              have R3 : RdAt c x G H3 (s.to m) := R3
              have f03 := f02.trans f3
              have hg3 := R3.sub _ _ hg
              have h53 := R3.sub _ _ h5
              have h : partEnds c x G H s ((VakepBase.takeSign 123 m).bind fun r => (Vakepa.takeStmts s.sets (r.length + 1) 0 r).map fun z => (⟨b, kk, z.1⟩, z.2)) Q E := hz
              rw [List.length_cons, List.length_cons, List.length_cons] at hll
              refine ⟨_, rfl, x.g, c.prog, gx, _, _, rfl, hg3, T.cs.prog.cl, T.cs.prog.no _ (by decide), progF_p, _, _, rfl, .inl (SqL.of R3.lp), _, rfl, x.g, c.prog, gx, _, _, rfl, hg3, T.cs.prog.cl, T.cs.prog.no _ (by decide), progF_n, _, rfl, p, c.tok, tx, _, _, rfl, h53, T.cs.tok.cl, T.cs.tok.text, tt, x.dn, _, rfl, DPut.k (k := kS b) R3.dn ?_, ?_⟩
              · rw [nums_len]
                show s.names.length < sizeLine
                rw [hnm, List.length_map]
                omega
              · have nnone : valV (numsFrom 0 s.names) (kS b) = none := by
                  rw [nv]
                  have z : s.parts.any (fun p => p.name == b) = false := by
                    cases q : s.parts.any (fun p => p.name == b) with
                    | false => rfl
                    | true => exact absurd (Or.inl q) hbn
                  rw [any_names, ← hnm] at z
                  cases q : s.names.findIdx? fun y => y == b with
                  | none => rfl
                  | some k =>
                    rw [q] at z
                    cases z
                have hput : putK (numsFrom 0 (s.to m).names) (kS b) (.int ((List.map V.ref (s.to m).os).length : Int)) = numsFrom 0 (s.names ++ [b]) := by
                  show putK (numsFrom 0 s.names) (kS b) (.int ((List.map V.ref s.os).length : Int)) = _
                  rw [putK_new _ nnone, nums_snoc, List.length_map, hol, hnm, List.length_map, Nat.zero_add]
                rw [hput]
                have R4 : RdAt c x G (upd H3 x.dn (.dK (numsFrom 0 (s.names ++ [b])))) (s.wp m (s.names ++ [b]) s.parts s.os s.called) := R3.addName b
                have f04 : Fr x H (upd H3 x.dn (.dK (numsFrom 0 (s.names ++ [b])))) := f03.at_mut mem_dn
                obtain ⟨j4, h4⟩ := R4.obj
                have hg4 := R4.sub _ _ hg
                refine ⟨_, rfl, x.g, c.prog, gx, _, _, rfl, hg4, T.cs.prog.cl, T.cs.prog.no _ (by decide), progF_p, .inl ⟨rfl, _, SqL.of R4.lp⟩, _, rfl, _, rfl, x.r, x.dx, _, rfl, h4, readerF_no (by decide), ?_⟩
                refine ⟨x, G, s.wp m (s.names ++ [b]) s.parts s.os s.called, m.length, rfl, R4, hen3, Nat.le_refl _, ?_⟩
                obtain ⟨t4, l4, rfl⟩ := endy_ne hen3
                show bodyEnds c x G _ _ ((VakepBase.takeSign 123 (t4 :: l4)).bind fun r => Vakepa.takeStmts s.sets (t4 :: l4).length 0 r) _ E
                rw [takeSign_is (s := "{") (by decide +kernel)] at h ⊢
                by_cases e4 : kindS t4.tok = "{"
                · rw [if_pos e4] at h ⊢
                  have h : partEnds c x G H s ((Vakepa.takeStmts s.sets (l4.length + 1) 0 l4).map fun z => (⟨b, kk, z.1⟩, z.2)) Q E := h
                  show bodyEnds c x G _ _ (Vakepa.takeStmts s.sets (l4.length + 1) 0 l4) _ E
                  cases q5 : Vakepa.takeStmts s.sets (l4.length + 1) 0 l4 with
                  | error f =>
                    rw [q5] at h
                    exact FX.from (c := c) (x := x) h f04
                  | ok bm =>
                    obtain ⟨bd, m5⟩ := bm
                    rw [q5] at h
                    intro G5 H5 q xs E5 R5 hen5 hlen5 hq5 hraw
                    have R5 : RdAt c x G5 H5 (s.wp m5 (s.names ++ [b]) s.parts s.os (s.called ++ callsOf bd)) := R5
                    have hraw : RawL c s.sets G5 bd xs := hraw
                    refine fun o dx ho hdx hne => ⟨o, dx, [.int kk, .ref q], rfl, rfl, upd_same, fun H6 h6 fr => ⟨rfl, ?_⟩⟩
                    have sm : Same H5 H6 := Same.made ho hdx fr
                    have R6 := R5.made ho h6 sm
                    have f05 : Fr x H H5 := f04.trans E5.fr
                    have f06 : Fr x H H6 := f05.trans (Fr.of sm)
                    have hHo : H o = none := f05.2 _ ho
                    have hGo : G o = none := R.sub.free hHo
                    have E6 : Ext x G H (upd G5 o (.ins c.part dx (partF kk q))) H6 := Ext.put ((Ext.of f04).trans E5) hHo hGo f06
                    have sG : Same G5 (upd G5 o (.ins c.part dx (partF kk q))) := Same.new (R5.sub.free ho)
                    have hpa : RawPartAt c s.sets (upd G5 o (.ins c.part dx (partF kk q))) o ⟨b, kk, bd⟩ := ⟨q, xs, ⟨dx, upd_same⟩, sG _ _ hq5, hraw.same sG⟩
                    have R7 := R6.addPart hpa
                    have hlen5 : m5.length < (t4 :: l4).length := hlen5
                    rw [List.length_cons] at hlen5 hll
                    refine ⟨x.lp, _, _, rfl, rfl, R6.lp, (by rw [List.length_map]; show s.os.length < sizeLine; omega), ?_⟩
                    exact h _ _ o ⟨E6.sub, E6.new, E6.fr.at_mut mem_lp⟩ R7 hen5 (by show m5.length < s.l.length; omega)
                · rw [if_neg e4] at h ⊢
                  exact FX.from (c := c) (x := x) h f04
          · rw [if_neg ne] at h
            exact FX.from (c := c) (x := x) h f01
      · rw [takeName_no ne] at h
        exact FX.from (c := c) (x := x) h f0
    · have h := h e
      unfold takePart at h
      rw [if_pos hge] at h
      exact h
end
end Pk
end
section
set_option Elab.async false
set_option linter.all false
set_option maxRecDepth 100000
set_option maxHeartbeats 4000000
namespace Pk
open PySem PySem.Spec PyProof.Rows L2
open Vakepa (Piece Part Prog Raw RawPart)
open VakepBase (PTok Toks PName RESERVED word tokEq)
section
variable {P : Program} {w : World} {K : PySem.W.Frag} {mg : Str → Option Value} {base : Heap} {c : Cs}
/-! ### read_parts -/
def partsCalled (ps : List RawPart) : List PName := ps.flatMap fun q => callsOf q.body
def partsEnds (c : Cs) (x : RA) (G H : Hp) (s : RdS) (r : Except VakepBase.Fault (List RawPart × Toks)) (Q : VK) (E : XK) : Prop := match r with
  | .error f => FX c x H E f.code f.place
  | .ok (ps, m) => ∀ (G' H' : Hp) (os : List Addr), Ext x G H G' H' → RdAt c x G' H' (s.wp m (ps.map fun q => q.name) ps os (partsCalled ps)) → Endy m → m.length ≤ s.l.length → Q .non H'
def spParts (c : Cs) : Sp := fun vs H Q E => ∃ (x : RA) (G : Hp) (s : RdS), vs = [.ref x.r] ∧ RdAt c x G H s ∧ Endy s.l ∧ s.parts = [] ∧ s.os = [] ∧ s.names = [] ∧ s.called = [] ∧ partsEnds c x G H s (Vakepa.takeParts s.sets (s.l.length + 1) [] s.l) Q E
theorem scParts : FnScope ["self"] ["self"] (defScope s_Reader_read_parts) := ⟨rfl, rfl, rfl, by decide +kernel, rfl, by decide +kernel, by decide +kernel⟩
theorem takePart_len {ss : List VSet} {ps : List RawPart} {t : PTok} {l : Toks} {r : RawPart × Toks} (h : takePart ss ps t l = .ok r) : ps.length < 10 := by
  unfold takePart at h
  by_cases z : 10 ≤ ps.length
  · rw [if_pos z] at h
    cases h
  · omega
theorem ok_parts {fF : Addr} (T : RdT K mg c fF) (D : MethAt K c.reader "read_parts" "Reader.read_parts" s_Reader_read_parts) (A0 : OkM P w K mg base CX0 1 c.reader "kind_ahead" ["self"] (spKind c)) (A1 : OkM P w K mg base (L2.CX P w) 16 c.reader "read_part" ["self"] (spPart c)) :
    OkM P w K mg base (L2.CX P w) 17 c.reader "read_parts" ["self"] (spParts c) := by
  refine OkM.mk' D (fun f fd F => F.okX scParts (fun vs H Q E h => ?_) (fun cdv A outer s0 H vs Q E hr h => ?_)) (fun _ _ _ _ _ _ us hl => match us, hl with | [_], _ => rfl)
  · obtain ⟨x, G, s, rfl, _⟩ := h
    rfl
  · obtain ⟨x, G, s, rfl, R, hen, hp0, ho0, hn0, hc0, h⟩ := h
    have Tr := T.cs.reader
    have hr1 : Room 1 _ := hr.mono (by decide)
    refine ⟨_, pss_cons (ps_expr (cm0 (pv 0) Tr.cl A1 hr pout))
      (pss_one (ps_while (passes_of rfl) (pt_cmpR op_eq (cm0 (pv 0) Tr.cl A0 hr1 pass0) pe_str (nomark _)) (pss_one (ps_expr (cm0 (pv 0) Tr.cl A1 hr pout))))), ?_⟩
    obtain ⟨t, l, hl⟩ := endy_ne hen
    obtain ⟨j, h1⟩ := R.obj
    rw [hl] at h
    refine ⟨_, rfl, x.r, x.dx, _, rfl, h1, readerF_no (by decide), x, G, s, t, l, rfl, R, hen, hl, by rw [hn0, hp0]; rfl, by rw [hp0]; decide, fun ne => ?_, fun e => ?_⟩
    · rw [takeParts_no ne] at h
      exact h
    · have h : partsEnds c x G H s ((takePart s.sets s.parts t l).bind fun q => Vakepa.takeParts s.sets (t :: l).length (s.parts ++ [q.1]) q.2) Q E := by
        rw [takeParts_one e] at h
        rw [hp0]
        exact h
      cases q : takePart s.sets s.parts t l with
      | error f =>
        rw [q] at h
        exact h
      | ok qm =>
        obtain ⟨p0, m0⟩ := qm
        rw [q] at h
        have h : partsEnds c x G H s (Vakepa.takeParts s.sets (t :: l).length (s.parts ++ [p0]) m0) Q E := h
        intro G1 H1 o1 E1 R1 hen1 hlen1
        have hlen1 : m0.length < s.l.length := hlen1
        have z1 : s.wp m0 (s.names ++ [p0.name]) (s.parts ++ [p0]) (s.os ++ [o1]) (s.called ++ callsOf p0.body) = s.wp m0 ([p0].map fun q => q.name) [p0] [o1] (partsCalled [p0]) := by
          rw [hn0, hp0, ho0, hc0]
          show _ = s.wp m0 [p0.name] [p0] [o1] (callsOf p0.body ++ [])
          rw [List.append_nil]
          rfl
        rw [z1] at R1
        have hhl : (t :: l).length = s.l.length := by rw [hl]
        refine ⟨fun m σ H' => ∃ (G' : Hp) (ps : List RawPart) (os : List Addr) (l' : Toks) (n : Nat), σ = [some (.ref x.r)] ∧ Ext x G H G' H' ∧ RdAt c x G' H' (s.wp l' (ps.map fun q => q.name) ps os (partsCalled ps)) ∧ Endy l' ∧ 1 ≤ ps.length ∧ ps.length ≤ 10 ∧ l'.length ≤ s.l.length ∧ l'.length < n ∧
            partsEnds c x G H s (Vakepa.takeParts s.sets n ps l') Q E ∧ m = l'.length,
          ⟨_, G1, [p0], [o1], m0, (t :: l).length, rfl, E1, R1, hen1, Nat.le_refl _, by show 1 ≤ 10; decide, by omega, by omega, by rw [hp0] at h; exact h, rfl⟩, ?_⟩
        rintro m σ H' ⟨G', ps, os, l', n, rfl, E', R', hen', hp1, hp10, hll, hn, hh, rfl⟩
        obtain ⟨t', r', rfl⟩ := endy_ne hen'
        obtain ⟨j', h2⟩ := R'.obj
        obtain ⟨n, rfl⟩ : ∃ k, n = k + 1 := ⟨n - 1, by rw [List.length_cons] at hn; omega⟩
        refine ⟨_, rfl, x.r, x.dx, _, rfl, h2, readerF_no (by decide), x, G', _, t', r', rfl, R', rfl, rfl, _, rfl, ?_⟩
        refine ited (fun q2 => ⟨_, fun _ _ z => z, ?_⟩) (fun q2 => ?_)
        · have e2 : kindS t'.tok = "part" := V.str.inj q2
          rw [takeParts_one e2] at hh
          refine ⟨_, rfl, x.r, x.dx, _, rfl, h2, readerF_no (by decide), x, G', _, t', r', rfl, R', hen', rfl, rfl, hp10, fun ne => absurd e2 ne, fun _ => ?_⟩
          show partEnds c x G' H' (s.wp (t' :: r') (ps.map fun q => q.name) ps os (partsCalled ps)) (takePart s.sets ps t' r') _ E
          cases q3 : takePart s.sets ps t' r' with
          | error f =>
            rw [q3] at hh
            exact FX.from (c := c) (x := x) hh E'.fr
          | ok qm =>
            obtain ⟨p2, m2⟩ := qm
            rw [q3] at hh
            have hlt := takePart_len q3
            intro G2 H2 o2 E2 R2 hen2 hlen2
            have hlen2 : m2.length < (t' :: r').length := hlen2
            refine ⟨_, hlen2, G2, ps ++ [p2], os ++ [o2], m2, n, rfl, E'.trans E2, ?_, hen2, ?_, ?_, by omega, by omega, hh, rfl⟩
            · have z : s.wp m2 ((ps ++ [p2]).map fun q => q.name) (ps ++ [p2]) (os ++ [o2]) (partsCalled (ps ++ [p2])) = (s.wp (t' :: r') (ps.map fun q => q.name) ps os (partsCalled ps)).wp m2 ((ps.map fun q => q.name) ++ [p2.name]) (ps ++ [p2]) (os ++ [o2]) (partsCalled ps ++ callsOf p2.body) := by
                unfold partsCalled
                rw [List.map_append, List.flatMap_append]
                simp [RdS.wp]
              rw [z]
              exact R2
            · rw [List.length_append, List.length_singleton]
              omega
            · rw [List.length_append, List.length_singleton]
              omega
        · have ne : kindS t'.tok ≠ "part" := fun z => q2 (by rw [z])
          rw [takeParts_no ne, if_neg (by cases ps with | nil => simp at hp1 | cons a b => simp)] at hh
          exact hh G' H' os E' R' hen' hll
/-! ### read_entries -/
def takeEnt (names : List By) : Nat → List Nat → Toks → Except VakepBase.Fault (List Nat × Toks)
  | 0, _, l => VakepBase.wrong l
  | n + 1, es, l => (VakepBase.takeName l).bind fun x => if 4 ≤ es.length then .error ⟨4, x.1.place⟩ else match names.findIdx? fun y => y == x.1.name with
    | none => .error ⟨8, x.1.place⟩
    | some k => if es.contains k = true then .error ⟨6, x.1.place⟩ else if VakepBase.next (.sign 44) x.2 = true then takeEnt names n (es ++ [k]) (x.2.drop 1) else (VakepBase.takeSign 59 x.2).map fun m => (es ++ [k], m)
theorem takeStarts_is (names : List By) : ∀ (n : Nat) (es : List Nat) (l : Toks), Vakepa.takeStarts names n es l = (takeEnt names n es l).bind fun em => if VakepBase.next .last em.2 = true then .ok em.1 else VakepBase.wrong em.2
  | 0, _, _ => rfl
  | n + 1, es, l => by
    rw [Vakepa.takeStarts, takeEnt, exc_bind_bind]
    refine exc_bind_congr fun x => ?_
    by_cases h1 : 4 ≤ es.length
    · rw [if_pos (show Vakepa.STARTS ≤ es.length from h1), if_pos h1]
      rfl
    · rw [if_neg (show ¬ Vakepa.STARTS ≤ es.length from h1), if_neg h1]
      cases names.findIdx? fun y => y == x.1.name with
      | none => rfl
      | some k =>
        show (if es.contains k = true then _ else _) = Except.bind (if es.contains k = true then _ else _) _
        by_cases h2 : es.contains k = true
        · rw [if_pos h2, if_pos h2]
          rfl
        · rw [if_neg h2, if_neg h2]
          by_cases h3 : VakepBase.next (.sign 44) x.2 = true
          · rw [if_pos h3, if_pos h3]
            exact takeStarts_is names n _ _
          · rw [if_neg h3, if_neg h3, exc_bind_map]
def RdS.we (s : RdS) (l : Toks) (es : List Nat) : RdS := ⟨l, s.sets, s.kvs, s.names, s.parts, s.os, es, s.called⟩
theorem RdAt.addEntry {x : RA} {G H : Hp} {s : RdS} (R : RdAt c x G H s) (k : Nat) : RdAt c x G (upd H x.le (.lst (s.starts.map (fun (k : Nat) => V.int (k : Int)) ++ [V.int k]))) (s.we s.l (s.starts ++ [k])) := by
  obtain ⟨_, _, _, n4, _, _, _, n8, _, _, n11, _, n13, _, n15⟩ := mut_ne R
  obtain ⟨j, as, all, h1, h2⟩ := R.toks
  obtain ⟨qs, q1, q2⟩ := R.q
  exact ⟨fun a u e => by rw [upd_ne (ne_of_none e (R.free _ mem_le))]; exact R.sub a u e, R.free, R.nd, ⟨j, as, all, (upd_ne n4).trans h1, h2⟩, R.prog, (upd_ne n8).trans R.ds, R.sets, (upd_ne n11).trans R.dn, (upd_ne n13).trans R.lp, R.parts, by rw [upd_same]; show _ = some (HO.lst ((s.starts ++ [k]).map fun (k : Nat) => V.int (k : Int))); rw [List.map_append]; rfl, ⟨qs, (upd_ne (Ne.symm n15)).trans q1, q2⟩, R.big⟩
def entEnds (c : Cs) (x : RA) (G H : Hp) (s : RdS) (r : Except VakepBase.Fault (List Nat × Toks)) (Q : VK) (E : XK) : Prop := match r with
  | .error f => FX c x H E f.code f.place
  | .ok (es, m) => ∀ (H' : Hp), Fr x H H' → RdAt c x G H' (s.we m es) → Endy m → Q .non H'
def spEnts (c : Cs) : Sp := fun vs H Q E => ∃ (x : RA) (G : Hp) (s : RdS), vs = [.ref x.r] ∧ RdAt c x G H s ∧ Endy s.l ∧ s.starts = [] ∧ entEnds c x G H s ((VakepBase.takeWord "start" s.l).bind fun r => takeEnt s.names (r.length + 1) [] r) Q E
theorem scEnts : FnScope ["self", "program", "more", "token", "number"] ["self"] (defScope s_Reader_read_entries) := ⟨rfl, rfl, rfl, by decide +kernel, rfl, by decide +kernel, by decide +kernel⟩
theorem takeEnt_no {ns : List By} {n : Nat} {es : List Nat} {t : PTok} {l : Toks} (h : kindS t.tok ≠ "name") : takeEnt ns (n + 1) es (t :: l) = .error ⟨3, t.place⟩ := by
  rw [takeEnt, takeName_no h]
  rfl
theorem takeEnt_ok {ns : List By} {n : Nat} {es : List Nat} {p : Nat} {b : By} {t : PTok} {l : Toks} (h : RESERVED.contains b = false) : takeEnt ns (n + 1) es (⟨p, .name b⟩ :: t :: l) =
    if 4 ≤ es.length then .error ⟨4, p⟩ else match ns.findIdx? fun y => y == b with
    | none => .error ⟨8, p⟩
    | some k => if es.contains k = true then .error ⟨6, p⟩ else if kindS t.tok = "," then takeEnt ns n (es ++ [k]) l else (VakepBase.takeSign 59 (t :: l)).map fun m => (es ++ [k], m) := by
  rw [takeEnt, takeName_ok h]
  show (if 4 ≤ es.length then Except.error ⟨4, p⟩ else match ns.findIdx? fun y => y == b with
    | none => .error ⟨8, p⟩
    | some k => if es.contains k = true then .error ⟨6, p⟩ else if VakepBase.next (.sign 44) (t :: l) = true then takeEnt ns n (es ++ [k]) l else (VakepBase.takeSign 59 (t :: l)).map fun m => (es ++ [k], m)) = _
  rw [nextSign_is (s := ",") (by decide +kernel)]
  by_cases h1 : 4 ≤ es.length
  · rw [if_pos h1, if_pos h1]
  · rw [if_neg h1, if_neg h1]
    cases ns.findIdx? fun y => y == b with
    | none => rfl
    | some k =>
      show (if es.contains k = true then _ else _) = (if es.contains k = true then _ else _)
      by_cases q : kindS t.tok = ","
      · rw [decide_eq_true q, if_pos (show true = true from rfl), if_pos q]
      · rw [decide_eq_false q, if_neg Bool.false_ne_true, if_neg q]
theorem ok_ents {fF : Addr} (T : RdT K mg c fF) (D : MethAt K c.reader "read_entries" "Reader.read_entries" s_Reader_read_entries) (A1 : OkM P w K mg base (L2.CX P w) 2 c.reader "take" ["self", "kind"] (spTake c))
    (A2 : OkM P w K mg base (L2.CX P w) 3 c.reader "take_within" ["self", "kind", "told", "most"] (spWithin c)) (A3 : OkM P w K mg base CX0 2 c.reader "skip" ["self", "kind"] (spSkip c)) : OkM P w K mg base (L2.CX P w) 4 c.reader "read_entries" ["self"] (spEnts c) := by
  refine OkM.mk' D (fun f fd F => F.okX scEnts (fun vs H Q E h => ?_) (fun cdv A outer s0 H vs Q E hr h => ?_)) (fun _ _ _ _ _ _ us hl => match us, hl with | [_], _ => rfl)
  · obtain ⟨x, G, s, rfl, _⟩ := h
    rfl
  · obtain ⟨x, G, s, rfl, R, hen, hs0, h⟩ := h
    have Tr := T.cs.reader
    have hr2 : Room 2 _ := hr.mono (by decide)
    have hu := hu_of hr
    refine ⟨_, pss_cons (ps_set (i := 1) scEnts.nd rfl (.inl rfl) (pe_fld (pv 0) rfl))
      (pss_cons (ps_expr (cm (pv 0) Tr.cl A1 hr2 pout (pa_cons pe_str pa_nil)))
      (pss_cons (ps_set (i := 2) scEnts.nd rfl (.inl rfl) pe_bl)
      (pss_cons (ps_while (passes_of rfl) (pt_val (pv 2))
        (pss_cons (ps_set (i := 3) scEnts.nd rfl (.inl rfl) (cm (pv 0) Tr.cl A2 hr pout (pa_cons pe_str (pa_cons (pe_callB call_len_seq (by rfl) T.len PySem.boot_len (pa_cons (pe_fld (pv 1) rfl) pa_nil)) (pa_cons (gi T.me) pa_nil)))))
        (pss_cons (ps_if (pt_cmp (pc_dnotin hu (pe_fld (pv 3) rfl) (pe_fld (pv 1) rfl)) (by rfl)) (pss_one (ps_raiseF rfl T.ft hr (takes_of rfl rfl rfl rfl) (by exact (pa_cons (gi T.e8) (pa_cons (pe_fld (pv 3) rfl) pa_nil))))) pss_nil)
        (pss_cons (ps_set (i := 4) scEnts.nd rfl (.inl rfl) (pe_dget hu (pe_fld (pv 1) rfl) (pe_fld (pv 3) rfl) (fun _ _ => rfl)))
        (pss_cons (ps_if (pt_cmpR op_in_seq (pv 4) (pe_fld (pv 1) rfl) (by rfl)) (pss_one (ps_raiseF rfl T.ft hr (takes_of rfl rfl rfl rfl) (by exact (pa_cons (gi T.e6) (pa_cons (pe_fld (pv 3) rfl) pa_nil))))) pss_nil)
        (pss_cons (ps_expr (pe_bm PySem.F.plainAttrs_list PySem.F.slot_list_append PySem.F.type_list_append mt_append (pe_fld (pv 1) rfl) (pa_cons (pv 4) pa_nil)))
        (pss_one (ps_set (i := 2) scEnts.nd rfl (.inl rfl) (cm (pv 0) Tr.cl A3 hr2 pass0 (pa_cons pe_str pa_nil))))))))))
      (pss_one (ps_expr (cm (pv 0) Tr.cl A1 hr2 pout (pa_cons pe_str pa_nil))))))), ?_⟩
    have hsz : sizeLine = 16777216 := sizeLine_eq
    obtain ⟨gx, hg⟩ := R.prog
    obtain ⟨j0, h0⟩ := R.obj
    obtain ⟨t0, l0, hl0⟩ := endy_ne hen
    have Tp := T.cs.prog
    refine ⟨_, rfl, x.r, c.reader, x.dx, _, _, rfl, h0, Tr.cl, Tr.no _ (by decide), readerF_g, ?_⟩
    rw [hl0, takeWord_is (by decide)] at h
    refine ⟨_, rfl, x.r, x.dx, _, rfl, h0, readerF_no (by decide), x, G, s, t0, l0, _, rfl, R, hl0, fun e0 H0 p0 R0 f0 _ => ?_, fun ne => ?_⟩
    · rw [if_pos e0] at h
      have hen0 : Endy l0 := by
        rw [hl0] at hen
        exact endy_cons hen (fun z => by rw [z] at e0; exact absurd e0 (by decide +kernel))
      have h : entEnds c x G H s (takeEnt s.names (l0.length + 1) [] l0) Q E := h
      refine wh (fun m σ H' => ∃ (more : Bool) (tok nb : Option V) (es : List Nat) (l' : Toks) (n : Nat), σ = [some (.ref x.r), some (.ref x.g), some (.bl more), tok, nb] ∧ RdAt c x G H' (s.we l' es) ∧ Fr x H H' ∧ Endy l' ∧ es.length ≤ 4 ∧ l'.length < n ∧
          takeEnt s.names (l0.length + 1) [] l0 = (if more = true then takeEnt s.names n es l' else (VakepBase.takeSign 59 l').map fun m => (es, m)) ∧ m = 2 * l'.length + (if more = true then 1 else 0))
        (fun σ H' => ∃ (tok nb : Option V) (es : List Nat) (l' : Toks), σ = [some (.ref x.r), some (.ref x.g), some (.bl false), tok, nb] ∧ RdAt c x G H' (s.we l' es) ∧ Fr x H H' ∧ Endy l' ∧
          takeEnt s.names (l0.length + 1) [] l0 = (VakepBase.takeSign 59 l').map fun m => (es, m)) _
        ⟨true, none, none, [], l0, l0.length + 1, rfl, ?_, f0, hen0, by decide, by omega, by rw [if_pos rfl], rfl⟩ ?_ ?_
      · have z : s.we l0 [] = s.to l0 := by
          unfold RdS.we RdS.to
          rw [hs0]
        rw [z]
        exact R0
      · rintro σ H' ⟨tok, nb, es, l', rfl, R1, f1, hen1, e1⟩
        obtain ⟨t, l, rfl⟩ := endy_ne hen1
        obtain ⟨j, h1⟩ := R1.obj
        rw [takeSign_is (s := ";") (by decide +kernel)] at e1
        refine ⟨_, rfl, x.r, x.dx, _, rfl, h1, readerF_no (by decide), x, G, _, t, l, _, rfl, R1, rfl, fun e H2 p R2 f2 ht => ?_, fun ne => ?_⟩
        · rw [if_pos e] at e1
          rw [e1] at h
          have ne : t.tok ≠ .last := fun z => by rw [z] at e; exact absurd e (by decide +kernel)
          exact h H2 (f1.trans f2) R2 (endy_cons hen1 ne)
        · rw [if_neg ne] at e1
          rw [e1] at h
          exact FX.from (c := c) (x := x) h f1
      · rintro fin m σ H' ⟨more, tok, nb, es, l', n, rfl, R1, f1, hen1, hv4, hn, e1, rfl⟩
        refine ⟨_, rfl, more, rfl, ?_⟩
        refine itb (fun hm => ⟨_, fun _ _ z => z, ?_⟩) (fun hm => ?_)
        · subst hm
          rw [if_pos rfl] at e1
          obtain ⟨t, l, rfl⟩ := endy_ne hen1
          obtain ⟨j, h1⟩ := R1.obj
          obtain ⟨n, rfl⟩ : ∃ k, n = k + 1 := ⟨n - 1, by rw [List.length_cons] at hn; omega⟩
          have hg1 := R1.sub _ _ hg
          refine ⟨_, rfl, x.r, x.dx, _, rfl, h1, readerF_no (by decide), _, rfl, x.g, c.prog, gx, _, _, rfl, hg1, Tp.cl, Tp.no _ (by decide), progF_e, _, _, rfl, .inl (SqL.of R1.le), ?_⟩
          refine ⟨x, G, _, t, l, "name", es.length, 4, ?_, R1, rfl, hv4, fun e hlt H2 p R2 f2 ht => ?_, fun ne => ?_, fun e hge => ?_⟩
          · show _ = [V.ref x.r, V.str "name", V.int (es.length : Int), V.int 4]
            rw [← List.length_map (as := es) (f := fun (k : Nat) => V.int (k : Int))]
            rfl
          · obtain ⟨b, hb, hres⟩ := kind_name.mp e
            obtain ⟨pl, tk⟩ := t
            have hb : tk = .name b := hb
            subst hb
            have hen2 : Endy l := endy_cons hen1 (by intro z; cases z)
            obtain ⟨t2, l2, rfl⟩ := endy_ne hen2
            have R2 : RdAt c x G H2 (s.we (t2 :: l2) es) := R2
            rw [takeEnt_ok hres, if_neg (by omega)] at e1
            obtain ⟨af, tx, h5⟩ := ht
            have h5 := R2.sub _ _ h5
            have hg2 := R2.sub _ _ hg
            have tt : (tokF (kindS (.name b)) pl af (textS (.name b)) (numS (.name b))).lookup ("text" : Str) = some (.str (toStr b)) := by rw [name_text hres]; exact tokF_text
            have f12 := f1.trans f2
            have nv := nums_val 0 s.names b
            refine ⟨_, rfl, p, c.tok, tx, _, _, rfl, h5, T.cs.tok.cl, T.cs.tok.text, tt, _, rfl, x.g, c.prog, gx, _, _, rfl, hg2, Tp.cl, Tp.no _ (by decide), progF_n, x.dn, _, rfl, DGet.k (k := kS b) R2.dn, _, rfl, ?_⟩
            have nv' : valV (numsFrom 0 (s.we (t2 :: l2) es).names) (kS b) = _ := nv
            cases q : s.names.findIdx? fun y => y == b with
            | none =>
              rw [q] at e1 nv'
              rw [nv']
              refine iteT ?_
              have e1 : takeEnt s.names (l0.length + 1) [] l0 = .error ⟨8, pl⟩ := e1
              rw [e1] at h
              exact ⟨_, rfl, p, c.tok, tx, _, _, rfl, h5, T.cs.tok.cl, T.cs.tok.place, tokF_place, _, _, rfl, fun d hd => FX.now h f12 hd⟩
            | some k =>
              rw [q] at e1 nv'
              have nv2 : valV (numsFrom 0 (s.we (t2 :: l2) es).names) (kS b) = some (.int (k : Int)) := by
                rw [nv']
                show some (V.int ((0 + k : Nat) : Int)) = _
                rw [Nat.zero_add]
              rw [nv2]
              refine iteF ?_
              have e1 : takeEnt s.names (l0.length + 1) [] l0 = (if es.contains k = true then .error ⟨6, pl⟩ else if kindS t2.tok = "," then takeEnt s.names n (es ++ [k]) l2 else (VakepBase.takeSign 59 (t2 :: l2)).map fun m => (es ++ [k], m)) := e1
              refine ⟨_, rfl, x.g, c.prog, gx, _, _, rfl, hg2, Tp.cl, Tp.no _ (by decide), progF_n, _, rfl, p, c.tok, tx, _, _, rfl, h5, T.cs.tok.cl, T.cs.tok.text, tt, x.dn, _, rfl, (by rw [← nv2]; exact DGet.k (k := kS b) R2.dn), ?_⟩
              refine ⟨_, rfl, _, rfl, x.g, c.prog, gx, _, _, rfl, hg2, Tp.cl, Tp.no _ (by decide), progF_e, x.le, _, rfl, .inl (SqL.of R2.le), rfl, ints_flat _, _, rfl, ?_⟩
              rw [if_neg Bool.false_ne_true, ints_in]
              show if es.contains k = true then _ else _
              refine itb (fun hc => ?_) (fun hc => ?_)
              · rw [if_pos hc] at e1
                rw [e1] at h
                exact ⟨_, rfl, p, c.tok, tx, _, _, rfl, h5, T.cs.tok.cl, T.cs.tok.place, tokF_place, _, _, rfl, fun d hd => FX.now h f12 hd⟩
              · rw [if_neg (by rw [hc]; decide)] at e1
                refine ⟨_, rfl, x.g, c.prog, gx, _, _, rfl, hg2, Tp.cl, Tp.no _ (by decide), progF_e, .inl ⟨rfl, _, SqL.of R2.le⟩, _, rfl, x.le, _, _, rfl, rfl, R2.le, (by rw [List.length_map]; show es.length < sizeLine; omega), ?_⟩
                have R3 : RdAt c x G (upd H2 x.le (.lst (es.map (fun (k : Nat) => V.int (k : Int)) ++ [V.int k]))) (s.we (t2 :: l2) (es ++ [k])) := R2.addEntry k
                have f3 : Fr x H (upd H2 x.le (.lst (es.map (fun (k : Nat) => V.int (k : Int)) ++ [V.int k]))) := f12.at_mut mem_le
                obtain ⟨j3, h3⟩ := R3.obj
                have hvl : (es ++ [k]).length ≤ 4 := by rw [List.length_append, List.length_singleton]; omega
                refine ⟨_, rfl, x.r, x.dx, _, rfl, h3, readerF_no (by decide), x, G, _, t2, l2, _, rfl, R3, rfl, fun e2 H4 R4 f4 => ?_, fun ne2 => ?_⟩
                · rw [if_pos e2] at e1
                  have hen3 : Endy l2 := endy_cons hen2 (fun z => by rw [z] at e2; exact absurd e2 (by decide +kernel))
                  refine ⟨_, ?_, true, some (.ref p), some (.int k), es ++ [k], l2, n, rfl, R4, f3.trans f4, hen3, hvl, by rw [List.length_cons, List.length_cons] at hn; omega, by rw [if_pos rfl]; exact e1, rfl⟩
                  rw [List.length_cons, List.length_cons, if_pos rfl]
                  omega
                · rw [if_neg ne2] at e1
                  refine ⟨_, ?_, false, some (.ref p), some (.int k), es ++ [k], t2 :: l2, n + 1, rfl, R3, f3, hen2, hvl, by rw [List.length_cons] at hn; omega, by rw [if_neg Bool.false_ne_true]; exact e1, rfl⟩
                  rw [if_neg Bool.false_ne_true, if_pos rfl]
                  rw [List.length_cons (a := (⟨pl, .name b⟩ : PTok))]
                  omega
          · rw [takeEnt_no ne] at e1
            rw [e1] at h
            exact FX.from (c := c) (x := x) h f1
          · obtain ⟨b, hb, hres⟩ := kind_name.mp e
            obtain ⟨pl, tk⟩ := t
            have hb : tk = .name b := hb
            subst hb
            obtain ⟨t2, l2, rfl⟩ := endy_ne (endy_cons hen1 (by intro z; cases z))
            rw [takeEnt_ok hres, if_pos hge] at e1
            rw [e1] at h
            exact FX.from (c := c) (x := x) h f1
        · subst hm
          rw [if_neg Bool.false_ne_true] at e1
          exact fin _ _ ⟨tok, nb, es, l', rfl, R1, f1, hen1, e1⟩
    · rw [if_neg ne] at h
      exact h
end
end Pk
end
section
set_option Elab.async false
set_option linter.all false
set_option maxRecDepth 100000
set_option maxHeartbeats 4000000
namespace Pk
open PySem PySem.Spec PyProof.Rows L2
open Vakepa (Piece Part Prog Raw RawPart)
open VakepBase (PTok Toks PName RESERVED word tokEq)
/-! ### calls by number: the first that is no part's -/
def isBad (names : List By) (n : PName) : Bool := (names.findIdx? fun y => y == n.name).isNone
def firstBad (names : List By) (cs : List PName) : Option PName := cs.find? (isBad names)
theorem solve_is (names : List By) : ∀ r : Raw, match firstBad names (callsOf r) with
    | none => ∃ s, Vakepa.solve names r = .ok s
    | some n => Vakepa.solve names r = .error ⟨9, n.place⟩
  | .done => ⟨_, rfl⟩
  | .say k r => by
    have ih := solve_is names r
    show match firstBad names (callsOf r) with
      | none => ∃ s, (Vakepa.solve names r).map (fun x => Vakepa.Stmt.say k x) = .ok s
      | some n => (Vakepa.solve names r).map (fun x => Vakepa.Stmt.say k x) = .error ⟨9, n.place⟩
    cases q : firstBad names (callsOf r) with
    | none =>
      rw [q] at ih
      obtain ⟨s, e⟩ := ih
      exact ⟨_, by rw [e]; rfl⟩
    | some n =>
      rw [q] at ih
      have ih : Vakepa.solve names r = .error ⟨9, n.place⟩ := ih
      show (Vakepa.solve names r).map (fun x => Vakepa.Stmt.say k x) = .error ⟨9, n.place⟩
      rw [ih]
      rfl
  | .call p r => by
    have ih := solve_is names r
    show match (p :: callsOf r).find? (isBad names) with
      | none => ∃ s, (match names.findIdx? fun y => y == p.name with
        | none => (Except.error (VakepBase.Fault.mk 9 p.place) : Except VakepBase.Fault VStmt)
        | some k => (Vakepa.solve names r).map fun x => Vakepa.Stmt.call k x) = .ok s
      | some n => (match names.findIdx? fun y => y == p.name with
        | none => (Except.error (VakepBase.Fault.mk 9 p.place) : Except VakepBase.Fault VStmt)
        | some k => (Vakepa.solve names r).map fun x => Vakepa.Stmt.call k x) = .error ⟨9, n.place⟩
    rw [List.find?_cons]
    cases q0 : names.findIdx? fun y => y == p.name with
    | none =>
      have hb : isBad names p = true := by unfold isBad; rw [q0]; rfl
      rw [hb]
    | some k =>
      have hb : isBad names p = false := by unfold isBad; rw [q0]; rfl
      rw [hb]
      have ih : match (callsOf r).find? (isBad names) with
        | none => ∃ s, Vakepa.solve names r = .ok s
        | some n => Vakepa.solve names r = .error ⟨9, n.place⟩ := ih
      cases q : (callsOf r).find? (isBad names) with
      | none =>
        rw [q] at ih
        obtain ⟨s, e⟩ := ih
        exact ⟨_, by rw [e]; rfl⟩
      | some n =>
        rw [q] at ih
        have ih : Vakepa.solve names r = .error ⟨9, n.place⟩ := ih
        show (Vakepa.solve names r).map (fun x => Vakepa.Stmt.call k x) = .error ⟨9, n.place⟩
        rw [ih]
        rfl
  | .make ps r => by
    have ih := solve_is names r
    show match firstBad names (callsOf r) with
      | none => ∃ s, (Vakepa.solve names r).map (fun x => Vakepa.Stmt.make ps x) = .ok s
      | some n => (Vakepa.solve names r).map (fun x => Vakepa.Stmt.make ps x) = .error ⟨9, n.place⟩
    cases q : firstBad names (callsOf r) with
    | none =>
      rw [q] at ih
      obtain ⟨s, e⟩ := ih
      exact ⟨_, by rw [e]; rfl⟩
    | some n =>
      rw [q] at ih
      have ih : Vakepa.solve names r = .error ⟨9, n.place⟩ := ih
      show (Vakepa.solve names r).map (fun x => Vakepa.Stmt.make ps x) = .error ⟨9, n.place⟩
      rw [ih]
      rfl
  | .when_ x v b r => by
    have ih1 := solve_is names b
    have ih2 := solve_is names r
    show match (callsOf b ++ callsOf r).find? (isBad names) with
      | none => ∃ s, ((Vakepa.solve names b).bind fun y => (Vakepa.solve names r).map fun z => Vakepa.Stmt.when_ x v y z) = .ok s
      | some n => ((Vakepa.solve names b).bind fun y => (Vakepa.solve names r).map fun z => Vakepa.Stmt.when_ x v y z) = .error ⟨9, n.place⟩
    rw [List.find?_append]
    have ih1 : match (callsOf b).find? (isBad names) with
      | none => ∃ s, Vakepa.solve names b = .ok s
      | some n => Vakepa.solve names b = .error ⟨9, n.place⟩ := ih1
    have ih2 : match (callsOf r).find? (isBad names) with
      | none => ∃ s, Vakepa.solve names r = .ok s
      | some n => Vakepa.solve names r = .error ⟨9, n.place⟩ := ih2
    cases q1 : (callsOf b).find? (isBad names) with
    | some n =>
      rw [q1] at ih1
      have ih1 : Vakepa.solve names b = .error ⟨9, n.place⟩ := ih1
      show ((Vakepa.solve names b).bind fun y => (Vakepa.solve names r).map fun z => Vakepa.Stmt.when_ x v y z) = .error ⟨9, n.place⟩
      rw [ih1]
      rfl
    | none =>
      rw [q1] at ih1
      obtain ⟨s1, e1⟩ := ih1
      rw [e1]
      show match (callsOf r).find? (isBad names) with
        | none => ∃ s, (Vakepa.solve names r).map (fun z => Vakepa.Stmt.when_ x v s1 z) = .ok s
        | some n => (Vakepa.solve names r).map (fun z => Vakepa.Stmt.when_ x v s1 z) = .error ⟨9, n.place⟩
      cases q : (callsOf r).find? (isBad names) with
      | none =>
        rw [q] at ih2
        obtain ⟨s, e⟩ := ih2
        exact ⟨_, by rw [e]; rfl⟩
      | some n =>
        rw [q] at ih2
        have ih2 : Vakepa.solve names r = .error ⟨9, n.place⟩ := ih2
        show (Vakepa.solve names r).map (fun z => Vakepa.Stmt.when_ x v s1 z) = .error ⟨9, n.place⟩
        rw [ih2]
        rfl
/-- a part and what it becomes -/
def Solved (names : List By) (q : RawPart) (p : Part) : Prop := p.name = q.name ∧ p.size = q.size ∧ Vakepa.solve names q.body = .ok p.body
theorem solveParts_is (names : List By) : ∀ ps : List RawPart, match firstBad names (partsCalled ps) with
    | none => ∃ rs, Vakepa.solveParts names ps = .ok rs ∧ All2 (Solved names) ps rs
    | some n => Vakepa.solveParts names ps = .error ⟨9, n.place⟩
  | [] => ⟨[], rfl, .nil⟩
  | p :: r => by
    have ih1 := solve_is names p.body
    have ih2 := solveParts_is names r
    show match (callsOf p.body ++ partsCalled r).find? (isBad names) with
      | none => ∃ rs, ((Vakepa.solve names p.body).bind fun b => (Vakepa.solveParts names r).map fun l => (⟨p.name, p.size, b⟩ : Part) :: l) = .ok rs ∧ All2 (Solved names) (p :: r) rs
      | some n => ((Vakepa.solve names p.body).bind fun b => (Vakepa.solveParts names r).map fun l => (⟨p.name, p.size, b⟩ : Part) :: l) = .error ⟨9, n.place⟩
    rw [List.find?_append]
    have ih1 : match (callsOf p.body).find? (isBad names) with
      | none => ∃ s, Vakepa.solve names p.body = .ok s
      | some n => Vakepa.solve names p.body = .error ⟨9, n.place⟩ := ih1
    have ih2 : match (partsCalled r).find? (isBad names) with
      | none => ∃ rs, Vakepa.solveParts names r = .ok rs ∧ All2 (Solved names) r rs
      | some n => Vakepa.solveParts names r = .error ⟨9, n.place⟩ := ih2
    cases q1 : (callsOf p.body).find? (isBad names) with
    | some n =>
      rw [q1] at ih1
      have ih1 : Vakepa.solve names p.body = .error ⟨9, n.place⟩ := ih1
      show ((Vakepa.solve names p.body).bind fun b => (Vakepa.solveParts names r).map fun l => (⟨p.name, p.size, b⟩ : Part) :: l) = .error ⟨9, n.place⟩
      rw [ih1]
      rfl
    | none =>
      rw [q1] at ih1
      obtain ⟨s1, e1⟩ := ih1
      rw [e1]
      show match (partsCalled r).find? (isBad names) with
        | none => ∃ rs, (Vakepa.solveParts names r).map (fun l => (⟨p.name, p.size, s1⟩ : Part) :: l) = .ok rs ∧ All2 (Solved names) (p :: r) rs
        | some n => (Vakepa.solveParts names r).map (fun l => (⟨p.name, p.size, s1⟩ : Part) :: l) = .error ⟨9, n.place⟩
      cases q : (partsCalled r).find? (isBad names) with
      | none =>
        rw [q] at ih2
        obtain ⟨rs, e, a⟩ := ih2
        exact ⟨_, by rw [e]; rfl, .cons ⟨rfl, rfl, e1⟩ a⟩
      | some n =>
        rw [q] at ih2
        have ih2 : Vakepa.solveParts names r = .error ⟨9, n.place⟩ := ih2
        show (Vakepa.solveParts names r).map (fun l => (⟨p.name, p.size, s1⟩ : Part) :: l) = .error ⟨9, n.place⟩
        rw [ih2]
        rfl
theorem find_snoc {l : List PName} {f : PName → Bool} {i : Nat} {n : PName} (h : l[i]? = some n) (h0 : (l.take i).find? f = none) : f n = false → (l.take (i + 1)).find? f = none := fun z => by
  rw [take_snocG h, List.find?_append, h0]
  show [n].find? f = none
  rw [List.find?_cons, z]
  rfl
theorem find_hit : ∀ {l : List PName} {f : PName → Bool} {i : Nat} {n : PName}, l[i]? = some n → (l.take i).find? f = none → f n = true → l.find? f = some n
  | [], _, _, _, h, _, _ => by simp at h
  | a :: r, f, 0, n, h, _, hf => by
    have e : a = n := Option.some.inj h
    subst e
    rw [List.find?_cons, hf]
  | a :: r, f, i + 1, n, h, h0, hf => by
    have h : r[i]? = some n := h
    have h0 : (a :: r.take i).find? f = none := h0
    rw [List.find?_cons] at h0
    cases q : f a with
    | true =>
      rw [q] at h0
      cases h0
    | false =>
      rw [q] at h0
      rw [List.find?_cons, q]
      exact find_hit h h0 hf
section
variable {P : Program} {w : World} {K : PySem.W.Frag} {mg : Str → Option Value} {base : Heap} {c : Cs}
/-! ### check_calls -/
def spCheck (c : Cs) : Sp := fun vs H Q E => ∃ (x : RA) (G : Hp) (s : RdS), vs = [.ref x.r] ∧ RdAt c x G H s ∧ match firstBad s.names s.called with
  | none => Q .non H
  | some n => FX c x H E 9 n.place
theorem scCheck : FnScope ["self", "token"] ["self"] (defScope s_Reader_check_calls) := ⟨rfl, rfl, rfl, by decide +kernel, rfl, by decide +kernel, by decide +kernel⟩
theorem ok_check {fF : Addr} (T : RdT K mg c fF) (D : MethAt K c.reader "check_calls" "Reader.check_calls" s_Reader_check_calls) : OkM P w K mg base (L2.CX P w) 2 c.reader "check_calls" ["self"] (spCheck c) := by
  refine OkM.mk' D (fun f fd F => F.okX scCheck (fun vs H Q E h => ?_) (fun cdv A outer s0 H vs Q E hr h => ?_)) (fun _ _ _ _ _ _ us hl => match us, hl with | [_], _ => rfl)
  · obtain ⟨x, G, s, rfl, _⟩ := h
    rfl
  · obtain ⟨x, G, s, rfl, R, h⟩ := h
    have Tr := T.cs.reader
    have hu := hu_of hr
    refine ⟨_, pss_one (ps_for (passes_of rfl) rfl (pi_list (pe_fld (pv 0) rfl)) (pg_name (i := 1) scCheck.nd rfl (.inl rfl))
      (pss_one (ps_if (pt_cmp (pc_dnotin hu (pe_fld (pv 1) rfl) (pe_fld (pe_fld (pv 0) rfl) rfl)) (by rfl)) (pss_one (ps_raiseF rfl T.ft hr (takes_of rfl rfl rfl rfl) (by exact (pa_cons (gi T.e9) (pa_cons (pe_fld (pv 1) rfl) pa_nil))))) pss_nil))), ?_⟩
    obtain ⟨gx, hg⟩ := R.prog
    have hg := R.sub _ _ hg
    obtain ⟨j0, h0⟩ := R.obj
    obtain ⟨qs, q1, q2⟩ := R.q
    refine ⟨_, rfl, x.r, c.reader, x.dx, _, _, rfl, h0, Tr.cl, Tr.no _ (by decide), readerF_q, x.q, rfl, ⟨_, SqL.of q1⟩, ?_⟩
    refine for_list (K := K) (a := x.q) (xs := qs.map V.ref) (fun i σ H' => ∃ v : Option V, σ = [some (.ref x.r), v] ∧ H' = H ∧ (s.called.take i).find? (isBad s.names) = none)
      ⟨none, rfl, rfl, rfl⟩ (fun i σ H' _ ⟨_, _, e, _⟩ => by rw [e]; exact SqL.of q1) ?_ ?_
    · rintro i y σ H1 hy ⟨v, rfl, rfl, hf⟩
      obtain ⟨p, hp, rfl⟩ : ∃ p, qs[i]? = some p ∧ y = .ref p := by
        rw [List.getElem?_map] at hy
        cases z : qs[i]? with
        | none =>
          rw [z] at hy
          cases hy
        | some e =>
          rw [z] at hy
          exact ⟨e, rfl, (Option.some.inj hy).symm⟩
      obtain ⟨n, hn, hres, af, tx, h5⟩ := q2.get' hp
      have h5 := R.sub _ _ h5
      have tt : (tokF (kindS (.name n.name)) n.place af (textS (.name n.name)) (numS (.name n.name))).lookup ("text" : Str) = some (.str (toStr n.name)) := by rw [name_text hres]; exact tokF_text
      refine ⟨_, rfl, p, c.tok, tx, _, _, rfl, h5, T.cs.tok.cl, T.cs.tok.text, tt, _, rfl, x.r, c.reader, x.dx, _, _, rfl, h0, Tr.cl, Tr.no _ (by decide), readerF_g, x.g, c.prog, gx, _, _, rfl, hg, T.cs.prog.cl, T.cs.prog.no _ (by decide), progF_n, x.dn, _, rfl, DGet.k (k := kS n.name) R.dn, _, rfl, ?_⟩
      rw [nums_val]
      cases q : s.names.findIdx? fun y => y == n.name with
      | none =>
        refine iteT ?_
        have hb : isBad s.names n = true := by unfold isBad; rw [q]; rfl
        have hh : firstBad s.names s.called = some n := find_hit hn hf hb
        rw [hh] at h
        exact ⟨_, rfl, p, c.tok, tx, _, _, rfl, h5, T.cs.tok.cl, T.cs.tok.place, tokF_place, _, _, rfl, fun d hd => FX.now h Fr.refl hd⟩
      | some k =>
        refine iteF ?_
        have hb : isBad s.names n = false := by unfold isBad; rw [q]; rfl
        exact ⟨some (.ref p), rfl, rfl, find_snoc hn hf hb⟩
    · rintro σ H1 ⟨v, rfl, rfl, hf⟩
      rw [List.length_map, q2.len, List.take_length] at hf
      have hh : firstBad s.names s.called = none := hf
      rw [hh] at h
      exact h
end
end Pk
end
section
set_option Elab.async false
set_option linter.all false
set_option maxRecDepth 100000
set_option maxHeartbeats 4000000
namespace Pk
open Vakepa (Piece Part Prog Raw RawPart)
open VakepBase (PTok Toks PName RESERVED word tokEq Fault)
/-! ### what is known of a program that was read -/
theorem bind_ok {α β : Type} {e : Except Fault α} {f : α → Except Fault β} {r : β} (h : e.bind f = .ok r) : ∃ a, e = .ok a ∧ f a = .ok r := by
  cases e with
  | error x => cases h
  | ok a => exact ⟨a, rfl, h⟩
theorem map_ok {α β : Type} {e : Except Fault α} {f : α → β} {r : β} (h : e.map f = .ok r) : ∃ a, e = .ok a ∧ f a = r := by
  cases e with
  | error x => cases h
  | ok a => exact ⟨a, rfl, Except.ok.inj h⟩
theorem if_ok {α : Type} {c : Prop} [Decidable c] {f : Fault} {e : Except Fault α} {r : α} (h : (if c then .error f else e) = .ok r) : ¬ c ∧ e = .ok r := by
  by_cases q : c
  · rw [if_pos q] at h
    cases h
  · rw [if_neg q] at h
    exact ⟨q, h⟩
def TokOk (l : Toks) : Prop := ∀ t ∈ l, ∀ b, t.tok = .name b → b.length ≤ 16
theorem TokOk.sub {l m : Toks} (h : TokOk l) (s : ∀ t ∈ m, t ∈ l) : TokOk m := fun t ht => h t (s t ht)
theorem drop1_sub {l : Toks} : ∀ t ∈ l.drop 1, t ∈ l := fun t ht => List.mem_of_mem_drop ht
theorem takeName_inv {l m : Toks} {n : PName} (h : VakepBase.takeName l = .ok (n, m)) : (∀ t ∈ m, t ∈ l) ∧ (TokOk l → n.name.length ≤ 16) := by
  unfold VakepBase.takeName at h
  split at h
  · rename_i p b r
    split at h
    · cases h
    · have e := Except.ok.inj h
      cases e
      exact ⟨fun t ht => List.mem_cons_of_mem _ ht, fun T => T _ (List.mem_cons_self ..) b rfl⟩
  · cases h
theorem taken_inv {t : VTok} {l m : Toks} (h : VakepBase.taken t l = .ok m) : ∀ t ∈ m, t ∈ l := by
  unfold VakepBase.taken at h
  split at h
  · have e := Except.ok.inj h
    subst e
    exact drop1_sub
  · cases h
theorem takeNat_inv {l m : Toks} {n : Nat} (h : Vakepa.takeNat 99 l = .ok (n, m)) : (∀ t ∈ m, t ∈ l) ∧ n ≤ 99 := by
  unfold Vakepa.takeNat at h
  split at h
  · rename_i q k r
    obtain ⟨h1, h2⟩ := if_ok h
    have e := Except.ok.inj h2
    cases e
    exact ⟨fun t ht => List.mem_cons_of_mem _ ht, by omega⟩
  · cases h
structure ValsOk (vs : List By) : Prop where
  nd : vs.Nodup
  le : vs.length ≤ 4
  sz : ∀ v ∈ vs, v.length ≤ 16
theorem takeValues_inv : ∀ (n : Nat) (vs : List By) (l : Toks) {ws : List By} {m : Toks}, TokOk l → ValsOk vs → Vakepa.takeValues n vs l = .ok (ws, m) → (∀ t ∈ m, t ∈ l) ∧ ValsOk ws ∧ 1 ≤ ws.length
  | 0, _, _, _, _, _, _, h => by cases h
  | n + 1, vs, l, ws, m, T, V, h => by
    rw [Vakepa.takeValues] at h
    obtain ⟨x, e1, h⟩ := bind_ok h
    obtain ⟨s1, k1⟩ := takeName_inv e1
    obtain ⟨c1, h⟩ := if_ok h
    obtain ⟨c2, h⟩ := if_ok h
    have c1 : ¬ 4 ≤ vs.length := c1
    have V2 : ValsOk (vs ++ [x.1.name]) := ⟨L2.nd_snoc V.nd (fun z => c2 (List.contains_iff_mem.mpr z)), by rw [List.length_append, List.length_singleton]; omega, fun v hv => by
      rcases List.mem_append.mp hv with q | q
      · exact V.sz v q
      · rw [List.mem_singleton.mp q]
        exact k1 T⟩
    split at h
    · have T2 : TokOk (x.2.drop 1) := (T.sub s1).sub drop1_sub
      obtain ⟨s2, k2⟩ := takeValues_inv n _ _ T2 V2 h
      exact ⟨fun t ht => s1 t (drop1_sub t (s2 t ht)), k2⟩
    · obtain ⟨m', e2, e3⟩ := map_ok h
      cases e3
      exact ⟨fun t ht => s1 t (taken_inv e2 t ht), V2, by rw [List.length_append, List.length_singleton]; omega⟩
structure SetsOk (ss : List VSet) : Prop where
  le : ss.length ≤ 3
  nd : (ss.map fun s => s.name).Nodup
  ok : ∀ s ∈ ss, ValsOk s.values ∧ 1 ≤ s.values.length
theorem takeSets_inv : ∀ (n : Nat) (ss : List VSet) (l : Toks) {rs : List VSet} {m : Toks}, TokOk l → SetsOk ss → Vakepa.takeSets n ss l = .ok (rs, m) → (∀ t ∈ m, t ∈ l) ∧ SetsOk rs
  | 0, _, _, _, _, _, _, h => by cases h
  | n + 1, ss, l, rs, m, T, V, h => by
    rw [Vakepa.takeSets] at h
    split at h
    · obtain ⟨c1, h⟩ := if_ok h
      obtain ⟨x, e1, h⟩ := bind_ok h
      obtain ⟨s1, k1⟩ := takeName_inv e1
      have s1' : ∀ t ∈ x.2, t ∈ l := fun t ht => drop1_sub t (s1 t ht)
      obtain ⟨c2, h⟩ := if_ok h
      obtain ⟨r, e2, h⟩ := bind_ok h
      have s2 : ∀ t ∈ r, t ∈ l := fun t ht => s1' t (taken_inv e2 t ht)
      obtain ⟨v, e3, h⟩ := bind_ok h
      obtain ⟨s3, k3, k4⟩ := takeValues_inv _ _ _ (T.sub s2) ⟨List.nodup_nil, Nat.zero_le _, fun _ z => absurd z List.not_mem_nil⟩ e3
      have c1 : ¬ 3 ≤ ss.length := c1
      have s3' : ∀ t ∈ v.2, t ∈ l := fun t ht => s2 t (s3 t ht)
      have V2 : SetsOk (ss ++ [⟨x.1.name, v.1⟩]) := ⟨by rw [List.length_append, List.length_singleton]; omega, by
          rw [List.map_append]
          refine L2.nd_snoc V.nd (fun z => c2 ?_)
          obtain ⟨s, hs, e⟩ := List.mem_map.mp z
          exact List.any_eq_true.mpr ⟨s, hs, by rw [e]; exact beq_self_eq_true _⟩, fun s hs => by
          rcases List.mem_append.mp hs with q | q
          · exact V.ok s q
          · rw [List.mem_singleton.mp q]
            exact ⟨k3, k4⟩⟩
      obtain ⟨s4, k5⟩ := takeSets_inv n _ _ (T.sub s3') V2 h
      exact ⟨fun t ht => s3' t (s4 t ht), k5⟩
    · have e := Except.ok.inj h
      cases e
      exact ⟨fun _ z => z, V⟩
theorem pieceOf_ok {ss : List VSet} {b : By} (h : b.length ≤ 16) : PieceOk ss (Vakepa.pieceOf ss b) := by
  unfold Vakepa.pieceOf
  cases q : ss.findIdx? fun s => s.name == b with
  | none => exact ⟨fun s hs z => by
      have := List.findIdx?_eq_none_iff.mp q s hs
      rw [z] at this
      simp at this, h⟩
  | some k => exact (List.findIdx?_eq_some_iff_getElem.mp q).1
theorem takePieces_inv (ss : List VSet) : ∀ (n : Nat) (ps : List Piece) (l : Toks) {qs : List Piece} {m : Toks}, TokOk l → ps.length ≤ 3 → (∀ z ∈ ps, PieceOk ss z) → Vakepa.takePieces ss n ps l = .ok (qs, m) → (∀ t ∈ m, t ∈ l) ∧ qs.length ≤ 3 ∧ ∀ z ∈ qs, PieceOk ss z
  | 0, _, _, _, _, _, _, _, h => by cases h
  | n + 1, ps, l, qs, m, T, hl, V, h => by
    rw [Vakepa.takePieces] at h
    obtain ⟨x, e1, h⟩ := bind_ok h
    obtain ⟨s1, k1⟩ := takeName_inv e1
    obtain ⟨c1, h⟩ := if_ok h
    have c1 : ¬ 3 ≤ ps.length := c1
    have L : (ps ++ [Vakepa.pieceOf ss x.1.name]).length ≤ 3 := by rw [List.length_append, List.length_singleton]; omega
    have V2 : ∀ z ∈ ps ++ [Vakepa.pieceOf ss x.1.name], PieceOk ss z := fun z hz => by
      rcases List.mem_append.mp hz with q | q
      · exact V z q
      · rw [List.mem_singleton.mp q]
        exact pieceOf_ok (k1 T)
    dsimp only at h
    split at h
    · obtain ⟨s2, k2⟩ := takePieces_inv ss n _ _ ((T.sub s1).sub drop1_sub) L V2 h
      exact ⟨fun t ht => s1 t (drop1_sub t (s2 t ht)), k2⟩
    · obtain ⟨m', e2, e3⟩ := map_ok h
      cases e3
      exact ⟨fun t ht => s1 t (taken_inv e2 t ht), L, V2⟩
def RawOk (ss : List VSet) : Raw → Prop
  | .done => True
  | .say k r => k ≤ 99 ∧ RawOk ss r
  | .call _ r => RawOk ss r
  | .make ps r => ps.length ≤ 3 ∧ (∀ z ∈ ps, PieceOk ss z) ∧ RawOk ss r
  | .when_ x w b r => (∃ s, ss[x]? = some s ∧ w < s.values.length) ∧ RawOk ss b ∧ RawOk ss r
def wdepR : Raw → Nat
  | .done => 0
  | .say _ r => wdepR r
  | .call _ r => wdepR r
  | .make _ r => wdepR r
  | .when_ _ _ b r => max (1 + wdepR b) (wdepR r)
def ItemOk (ss : List VSet) (d : Nat) : Item → Prop
  | .say k => k ≤ 99
  | .call _ => True
  | .make ps => ps.length ≤ 3 ∧ ∀ z ∈ ps, PieceOk ss z
  | .when_ x w b => (∃ s, ss[x]? = some s ∧ w < s.values.length) ∧ RawOk ss b ∧ 1 + wdepR b + d ≤ 3
theorem link_ok {ss : List VSet} {d : Nat} {i : Item} {r : Raw} (h1 : ItemOk ss d i) (h2 : RawOk ss r ∧ wdepR r + d ≤ 3) : RawOk ss (link i r) ∧ wdepR (link i r) + d ≤ 3 := by
  cases i with
  | say k => exact ⟨⟨h1, h2.1⟩, h2.2⟩
  | call p => exact h2
  | make ps => exact ⟨⟨h1.1, h1.2, h2.1⟩, h2.2⟩
  | when_ x w b =>
    refine ⟨⟨h1.1, h1.2.1, h2.1⟩, ?_⟩
    show max (1 + wdepR b) (wdepR r) + d ≤ 3
    have := h1.2.2
    have := h2.2
    omega
theorem takeStmts_inv (ss : List VSet) : ∀ (n d : Nat) (l : Toks) {r : Raw} {m : Toks}, d ≤ 3 → TokOk l → Vakepa.takeStmts ss n d l = .ok (r, m) → (∀ t ∈ m, t ∈ l) ∧ RawOk ss r ∧ wdepR r + d ≤ 3
  | 0, _, _, _, _, _, _, h => by cases h
  | n + 1, d, l, r, m, hd, T, h => by
    rw [takeStmts_one] at h
    split at h
    · have e := Except.ok.inj h
      cases e
      exact ⟨drop1_sub, trivial, by show 0 + d ≤ 3; omega⟩
    · obtain ⟨im, e1, h⟩ := bind_ok h
      obtain ⟨rm, e2, e3⟩ := map_ok h
      have one : (∀ t ∈ im.2, t ∈ l) ∧ ItemOk ss d im.1 := by
        unfold takeOne at e1
        split at e1
        · obtain ⟨k, e4, e1⟩ := bind_ok e1
          obtain ⟨r', e5, e6⟩ := map_ok e1
          obtain ⟨s1, k1⟩ := takeNat_inv e4
          rw [← e6]
          exact ⟨fun t ht => drop1_sub t (s1 t (taken_inv e5 t ht)), k1⟩
        · split at e1
          · obtain ⟨k, e4, e1⟩ := bind_ok e1
            obtain ⟨r', e5, e6⟩ := map_ok e1
            obtain ⟨s1, _⟩ := takeName_inv e4
            rw [← e6]
            exact ⟨fun t ht => drop1_sub t (s1 t (taken_inv e5 t ht)), trivial⟩
          · split at e1
            · obtain ⟨k, e4, e6⟩ := map_ok e1
              obtain ⟨s1, k1, k2⟩ := takePieces_inv ss _ _ _ (T.sub drop1_sub) (Nat.zero_le _) (fun _ z => absurd z List.not_mem_nil) e4
              rw [← e6]
              exact ⟨fun t ht => drop1_sub t (s1 t ht), k1, k2⟩
            · obtain ⟨r0, e4, e1⟩ := bind_ok e1
              have s0 := taken_inv e4
              obtain ⟨c1, e1⟩ := if_ok e1
              obtain ⟨x, e5, e1⟩ := bind_ok e1
              obtain ⟨s1, _⟩ := takeName_inv e5
              cases q1 : ss.findIdx? fun s => s.name == x.1.name with
              | none =>
                rw [q1] at e1
                cases e1
              | some k =>
                rw [q1] at e1
                obtain ⟨r1, e6, e1⟩ := bind_ok (e := VakepBase.takeWord "is" x.2) e1
                obtain ⟨v, e7, e1⟩ := bind_ok e1
                have s2 := taken_inv e6
                obtain ⟨s3, _⟩ := takeName_inv e7
                have hk := (List.findIdx?_eq_some_iff_getElem.mp q1).1
                rw [List.getElem?_eq_getElem hk] at e1
                cases q2 : (ss[k].values).findIdx? fun y => y == v.1.name with
                | none =>
                  have e1 : (match (ss[k].values).findIdx? fun y => y == v.1.name with
                    | none => (Except.error (Fault.mk 8 v.1.place) : Except Fault (Item × Toks))
                    | some j => (VakepBase.takeSign 123 v.2).bind fun r => (Vakepa.takeStmts ss n (d + 1) r).map fun (b : Raw × Toks) => (Item.when_ k j b.1, b.2)) = .ok im := e1
                  rw [q2] at e1
                  cases e1
                | some j =>
                  have e1 : (match (ss[k].values).findIdx? fun y => y == v.1.name with
                    | none => (Except.error (Fault.mk 8 v.1.place) : Except Fault (Item × Toks))
                    | some j => (VakepBase.takeSign 123 v.2).bind fun r => (Vakepa.takeStmts ss n (d + 1) r).map fun (b : Raw × Toks) => (Item.when_ k j b.1, b.2)) = .ok im := e1
                  rw [q2] at e1
                  obtain ⟨r2, e8, e1⟩ := bind_ok (e := VakepBase.takeSign 123 v.2) e1
                  obtain ⟨b, e9, e10⟩ := map_ok e1
                  have s4 := taken_inv e8
                  have sub : ∀ t ∈ r2, t ∈ l := fun t ht => s0 t (s1 t (s2 t (s3 t (s4 t ht))))
                  obtain ⟨s5, k5, k6⟩ := takeStmts_inv ss n (d + 1) r2 (by omega) (T.sub sub) e9
                  rw [← e10]
                  exact ⟨fun t ht => sub t (s5 t ht), ⟨ss[k], List.getElem?_eq_getElem hk, (List.findIdx?_eq_some_iff_getElem.mp q2).1⟩, k5, by omega⟩
      obtain ⟨o1, o2⟩ := one
      obtain ⟨s2, k2⟩ := takeStmts_inv ss n d im.2 hd (T.sub o1) e2
      cases e3
      exact ⟨fun t ht => o1 t (s2 t ht), link_ok o2 k2⟩
structure PartsOk (ss : List VSet) (ps : List RawPart) : Prop where
  le : ps.length ≤ 10
  nd : (ps.map fun q => q.name).Nodup
  ok : ∀ q ∈ ps, q.size ≤ 99 ∧ RawOk ss q.body ∧ wdepR q.body ≤ 3
theorem takeParts_inv (ss : List VSet) : ∀ (n : Nat) (ps : List RawPart) (l : Toks) {rs : List RawPart} {m : Toks}, TokOk l → PartsOk ss ps → Vakepa.takeParts ss n ps l = .ok (rs, m) → PartsOk ss rs ∧ 1 ≤ rs.length
  | 0, _, _, _, _, _, _, h => by cases h
  | n + 1, ps, l, rs, m, T, V, h => by
    rw [Vakepa.takeParts] at h
    split at h
    · obtain ⟨c1, h⟩ := if_ok h
      obtain ⟨x, e1, h⟩ := bind_ok h
      obtain ⟨s1, _⟩ := takeName_inv e1
      obtain ⟨c2, h⟩ := if_ok h
      obtain ⟨r, e2, h⟩ := bind_ok h
      obtain ⟨k, e3, h⟩ := bind_ok h
      obtain ⟨r2, e4, h⟩ := bind_ok h
      obtain ⟨b, e5, h⟩ := bind_ok h
      have c1 : ¬ 10 ≤ ps.length := c1
      obtain ⟨s3, k3⟩ := takeNat_inv e3
      have sub : ∀ t ∈ r2, t ∈ l := fun t ht => drop1_sub t (s1 t (taken_inv e2 t (s3 t (taken_inv e4 t ht))))
      obtain ⟨s5, k5, k6⟩ := takeStmts_inv ss _ 0 r2 (by decide) (T.sub sub) e5
      have V2 : PartsOk ss (ps ++ [⟨x.1.name, k.1, b.1⟩]) := ⟨by rw [List.length_append, List.length_singleton]; omega, by
          rw [List.map_append]
          refine L2.nd_snoc V.nd (fun z => c2 (.inl ?_))
          obtain ⟨s, hs, e⟩ := List.mem_map.mp z
          exact List.any_eq_true.mpr ⟨s, hs, by rw [e]; exact beq_self_eq_true _⟩, fun s hs => by
          rcases List.mem_append.mp hs with q | q
          · exact V.ok s q
          · rw [List.mem_singleton.mp q]
            exact ⟨k3, k5, by omega⟩⟩
      exact takeParts_inv ss n _ _ (T.sub fun t ht => sub t (s5 t ht)) V2 h
    · split at h
      · cases h
      · rename_i c2
        have e := Except.ok.inj h
        cases e
        exact ⟨V, by cases ps with | nil => exact absurd rfl c2 | cons a r => simp⟩
structure EntOk (names : List By) (es : List Nat) : Prop where
  le : es.length ≤ 4
  lt : ∀ k ∈ es, k < names.length
  nd : es.Nodup
theorem takeStarts_inv (names : List By) : ∀ (n : Nat) (es : List Nat) (l : Toks) {rs : List Nat}, EntOk names es → Vakepa.takeStarts names n es l = .ok rs → EntOk names rs ∧ 1 ≤ rs.length
  | 0, _, _, _, _, h => by cases h
  | n + 1, es, l, rs, V, h => by
    rw [Vakepa.takeStarts] at h
    obtain ⟨x, e1, h⟩ := bind_ok h
    obtain ⟨c1, h⟩ := if_ok h
    have c1 : ¬ 4 ≤ es.length := c1
    cases q : names.findIdx? fun y => y == x.1.name with
    | none =>
      rw [q] at h
      cases h
    | some k =>
      rw [q] at h
      obtain ⟨c2, h⟩ := if_ok h
      have V2 : EntOk names (es ++ [k]) := ⟨by rw [List.length_append, List.length_singleton]; omega, fun j hj => by
        rcases List.mem_append.mp hj with z | z
        · exact V.lt j z
        · rw [List.mem_singleton.mp z]
          exact (List.findIdx?_eq_some_iff_getElem.mp q).1, L2.nd_snoc V.nd (fun z => c2 (List.contains_iff_mem.mpr z))⟩
      split at h
      · exact takeStarts_inv names n _ _ V2 h
      · obtain ⟨m, e2, h⟩ := bind_ok h
        split at h
        · have e := Except.ok.inj h
          subst e
          exact ⟨V2, by rw [List.length_append, List.length_singleton]; omega⟩
        · cases h
theorem solve_ok {ss : List VSet} {names : List By} : ∀ {r : Raw} {s : VStmt}, Vakepa.solve names r = .ok s → RawOk ss r → BodyOk ss s ∧ wdep s = wdepR r
  | .done, s, e, _ => by
    cases Except.ok.inj e
    exact ⟨trivial, rfl⟩
  | .say k r, s, e, h => by
    obtain ⟨a, e1, e2⟩ := map_ok (e := Vakepa.solve names r) e
    subst e2
    obtain ⟨k1, k2⟩ := solve_ok e1 h.2
    exact ⟨⟨h.1, k1⟩, k2⟩
  | .call p r, s, e, h => by
    have e : (match names.findIdx? fun y => y == p.name with
      | none => Except.error (Fault.mk 9 p.place)
      | some k => (Vakepa.solve names r).map fun x => Vakepa.Stmt.call k x) = .ok s := e
    cases q : names.findIdx? fun y => y == p.name with
    | none =>
      rw [q] at e
      cases e
    | some k =>
      rw [q] at e
      obtain ⟨a, e1, e2⟩ := map_ok (e := Vakepa.solve names r) e
      subst e2
      obtain ⟨k1, k2⟩ := solve_ok (r := r) e1 h
      exact ⟨k1, k2⟩
  | .make ps r, s, e, h => by
    obtain ⟨a, e1, e2⟩ := map_ok (e := Vakepa.solve names r) e
    subst e2
    obtain ⟨k1, k2⟩ := solve_ok e1 h.2.2
    exact ⟨⟨h.1, h.2.1, k1⟩, k2⟩
  | .when_ x v b r, s, e, h => by
    obtain ⟨a1, e1, e⟩ := bind_ok (e := Vakepa.solve names b) e
    obtain ⟨a2, e2, e3⟩ := map_ok (e := Vakepa.solve names r) e
    subst e3
    obtain ⟨k1, k2⟩ := solve_ok e1 h.2.1
    obtain ⟨k3, k4⟩ := solve_ok e2 h.2.2
    exact ⟨⟨h.1, k1, k3⟩, by show max (1 + wdep a1) (wdep a2) = max (1 + wdepR b) (wdepR r); rw [k2, k4]⟩
/-- the tokens of a text -/
theorem lex_inv : ∀ (n at_ : Nat) (l : By) {ts : Toks}, VakepBase.lex n at_ l = .ok ts → TokOk ts ∧ Endy ts ∧ ts.length ≤ l.length + 1
  | 0, at_, l, ts, h => by
    cases Except.ok.inj h
    exact ⟨fun t ht b hb => (by rw [List.mem_singleton.mp ht] at hb; cases hb), rfl, by show 1 ≤ _; omega⟩
  | n + 1, at_, [], ts, h => by
    rw [VakepBase.lex] at h
    cases Except.ok.inj h
    exact ⟨fun t ht b hb => (by rw [List.mem_singleton.mp ht] at hb; cases hb), rfl, by show 1 ≤ _; omega⟩
  | n + 1, at_, b :: r, ts, h => by
    rw [VakepBase.lex] at h
    split at h
    · obtain ⟨h1, h2, h3⟩ := lex_inv n _ _ h
      exact ⟨h1, h2, by rw [List.length_cons]; omega⟩
    · split at h
      · obtain ⟨h1, h2, h3⟩ := lex_inv n _ _ h
        have q := (List.dropWhile_sublist (l := r) (· != 10)).length_le
        exact ⟨h1, h2, by rw [List.length_cons]; omega⟩
      · split at h
        · cases h
        · rename_i x e
          obtain ⟨ts', e1, e2⟩ := map_ok h
          obtain ⟨h1, h2, h3⟩ := lex_inv n _ _ e1
          have q := token_len e
          have nl : x.1 ≠ .last ∧ ∀ d, x.1 = .name d → d.length ≤ 16 := by
            unfold VakepBase.token at e
            simp only at e
            split at e
            · split at e
              · cases e
              · rename_i c
                cases Option.some.inj e
                refine ⟨fun z => (by cases z), fun d z => ?_⟩
                cases z
                have c : ¬ 16 < _ := c
                omega
            · split at e
              · obtain ⟨a, _, e3⟩ := Option.map_eq_some_iff.mp e
                rw [← e3]
                exact ⟨fun z => (by cases z), fun d z => (by cases z)⟩
              · split at e
                · cases Option.some.inj e
                  exact ⟨fun z => (by cases z), fun d z => (by cases z)⟩
                · cases e
          rw [← e2]
          refine ⟨fun t ht d hd => ?_, ?_, ?_⟩
          · rcases List.mem_cons.mp ht with z | z
            · rw [z] at hd
              exact nl.2 d hd
            · exact h1 t z d hd
          · cases ts' with
            | nil => exact h2.elim
            | cons t r' => exact ⟨nl.1, h2⟩
          · rw [List.length_cons]
            rw [List.length_drop] at h3
            omega
theorem solved_names {names : List By} : ∀ {ps : List RawPart} {rs : List Part}, All2 (Solved names) ps rs → (rs.map fun x => x.name) = ps.map fun q => q.name
  | _, _, .nil => rfl
  | _, _, .cons h t => by
    rw [List.map_cons, List.map_cons, h.1, solved_names t]
/-- THE END: what was read is well formed -/
theorem read_wf {b : By} {l : Toks} {ss : List VSet} {m m2 : Toks} {ps : List RawPart} {es : List Nat} {rs : List Part} (h1 : TokOk l) (h2 : Vakepa.takeSets (l.length + 1) [] l = .ok (ss, m)) (h3 : Vakepa.takeParts ss (m.length + 1) [] m = .ok (ps, m2)) {n : Nat} {r : Toks} (h4 : Vakepa.takeStarts (ps.map fun x => x.name) n [] r = .ok es) (h5 : All2 (Solved (ps.map fun x => x.name)) ps rs) : WF ⟨ss, rs, es⟩ := by
  obtain ⟨s1, S⟩ := takeSets_inv _ _ _ h1 ⟨Nat.zero_le _, (by show ([] : List By).Nodup; exact List.nodup_nil), fun _ z => absurd z List.not_mem_nil⟩ h2
  obtain ⟨PO, p1⟩ := takeParts_inv ss _ _ _ (h1.sub s1) ⟨Nat.zero_le _, (by show ([] : List By).Nodup; exact List.nodup_nil), fun _ z => absurd z List.not_mem_nil⟩ h3
  obtain ⟨EO, e1⟩ := takeStarts_inv _ _ _ _ ⟨Nat.zero_le _, fun _ z => absurd z List.not_mem_nil, List.nodup_nil⟩ h4
  have len := h5.len
  have nm := solved_names h5
  refine ⟨S.le, fun s hs => ⟨(S.ok s hs).2, (S.ok s hs).1.le⟩, S.nd, ?_, ?_, EO.le, e1, fun k hk => ?_, fun x hx => ?_, fun s hs => ⟨(S.ok s hs).1.nd, (S.ok s hs).1.sz⟩, ?_, fun x hx => ?_, EO.nd⟩
  · show rs.length ≤ 10
    rw [← len]
    exact PO.le
  · show 1 ≤ rs.length
    rw [← len]
    exact p1
  · have := EO.lt k hk
    rw [List.length_map] at this
    show k < rs.length
    omega
  · obtain ⟨i, hi⟩ := List.getElem?_of_mem hx
    obtain ⟨q, hq, z⟩ := h5.get hi
    rw [z.2.1]
    exact (PO.ok q (List.mem_of_getElem? hq)).1
  · show (rs.map fun x => x.name).Nodup
    rw [nm]
    exact PO.nd
  · obtain ⟨i, hi⟩ := List.getElem?_of_mem hx
    obtain ⟨q, hq, z⟩ := h5.get hi
    obtain ⟨_, k1, k2⟩ := PO.ok q (List.mem_of_getElem? hq)
    obtain ⟨k3, k4⟩ := solve_ok z.2.2 k1
    exact ⟨k3, by rw [k4]; exact k2⟩
end Pk
end
section
set_option Elab.async false
set_option linter.all false
set_option maxRecDepth 100000
set_option maxHeartbeats 4000000
namespace Pk
open PySem PySem.Spec PyProof.Rows L2
open Vakepa (Piece Part Prog Raw RawPart)
open VakepBase (PTok Toks PName RESERVED word tokEq)
section
variable {P : Program} {w : World} {K : PySem.W.Frag} {mg : Str → Option Value} {base : Heap} {c : Cs}
/-! ### Reader(tokens) -/
def spReadI (c : Cs) : Sp := fun vs H Q _ => ∃ (p dx t : Addr) (ts : Toks) (G0 : Hp), vs = [.ref p, .ref t] ∧ H p = some (.ins c.reader dx []) ∧ Same G0 H ∧ G0 p = none ∧ ToksAt c.tok G0 t ts ∧ ts.length ≤ 5000 ∧
  ∀ (H' G : Hp) (x : RA), x.r = p → RdAt c x G H' ⟨ts, [], [], [], [], [], [], []⟩ → (∀ b o, H b = some o → b ≠ p → H' b = some o) → (∀ b ∈ x.muts, b = p ∨ H b = none) → H x.g = none → (∀ b o, G b = some o → G0 b = some o ∨ H b = none) → Q .non H'
theorem scReadI : FnScope ["self", "tokens"] ["self", "tokens"] (defScope s_Reader_init) := ⟨rfl, rfl, rfl, by decide +kernel, rfl, by decide +kernel, by decide +kernel⟩
theorem ok_readI (T : CsT K c) (D : InitAt K mg c.reader "Reader" "Reader.__init__" s_Reader_init) (A1 : OkI P w K mg base CX0 1 c.prog "Program" ["self"] (spProgI c.prog)) : OkI P w K mg base CX0 3 c.reader "Reader" ["self", "tokens"] (spReadI c) := by
  refine OkI.mk' D (fun f fd F => F.ok scReadI (fun vs H Q E h => ?_) (fun cdv A outer s0 H vs Q E hr h => ?_)) (fun _ _ _ _ _ _ us hl => match us, hl with | [_, _], _ => rfl)
  · obtain ⟨p, dx, t, ts, G0, rfl, _⟩ := h
    rfl
  · obtain ⟨p, dx, t, ts, G0, rfl, hp, hG, hGp, ⟨as, ht, hts⟩, hlen, h⟩ := h
    have Tr := T.reader
    refine ⟨_, pss_cons (ps_fld (pv 0) (pv 1) rfl) (pss_cons (ps_fld (pv 0) pe_int rfl) (pss_cons (ps_fld (pv 0) (ci0 A1 hr pass0) rfl) (pss_one (ps_fld (pv 0) (pe_lst pa_nil) rfl)))), ?_⟩
    refine ⟨_, rfl, _, rfl, p, c.reader, dx, _, rfl, hp, Tr.cl, Tr.no _ (by decide), (by decide), ?_⟩
    refine ⟨_, rfl, p, c.reader, dx, _, rfl, upd_same, Tr.cl, Tr.no _ (by decide), (by show 1 < 1000; decide), ?_⟩
    refine (fun g dg hg hdg hne => ⟨g, dg, rfl, upd_same, fun H3 s n l e h3 hs hn hl he hf nsn nle fr => ⟨rfl, ?_⟩⟩)
    obtain ⟨fs, fn, fl, fe⟩ := hf
    have S0 : Same G0 (upd (upd H p (.ins c.reader dx (putF "tokens" (.ref t) []))) p (.ins c.reader dx (putF "at" (.int 0) (putF "tokens" (.ref t) [])))) := fun b o e => by
      rw [upd_ne (ne_of_none e hGp), upd_ne (ne_of_none e hGp)]
      exact hG b o e
    have S1 := Same.made hg hdg fr
    have hp3 := S1 _ _ upd_same
    refine ⟨_, rfl, p, c.reader, dx, _, rfl, hp3, Tr.cl, Tr.no _ (by decide), (by show 2 < 1000; decide), ?_⟩
    refine ⟨Nat.zero_le _, fun q hq => ?_⟩
    have npq : p ≠ q := ne_of_none upd_same hq
    refine ⟨_, rfl, p, c.reader, dx, _, rfl, (upd_ne npq).trans upd_same, Tr.cl, Tr.no _ (by decide), (by show 3 < 1000; decide), ?_⟩
    rw [upd_ne (Ne.symm npq)] at hq
    have nps : p ≠ s := ne_of hp3 hs (by intro z; cases z)
    have npn : p ≠ n := ne_of hp3 hn (by intro z; cases z)
    have npl : p ≠ l := ne_of hp3 hl (by intro z; cases z)
    have npe : p ≠ e := ne_of hp3 he (by intro z; cases z)
    have npg : p ≠ g := ne_of_none upd_same hg
    have ngs : g ≠ s := ne_of h3 hs (by intro z; cases z)
    have ngn : g ≠ n := ne_of h3 hn (by intro z; cases z)
    have ngl : g ≠ l := ne_of h3 hl (by intro z; cases z)
    have nge : g ≠ e := ne_of h3 he (by intro z; cases z)
    have ngq : g ≠ q := ne_of_none h3 hq
    have nsl : s ≠ l := ne_of hs hl (by intro z; cases z)
    have nse : s ≠ e := ne_of hs he (by intro z; cases z)
    have nnl : n ≠ l := ne_of hn hl (by intro z; cases z)
    have nne : n ≠ e := ne_of hn he (by intro z; cases z)
    have nsq : s ≠ q := ne_of_none hs hq
    have nnq : n ≠ q := ne_of_none hn hq
    have nlq : l ≠ q := ne_of_none hl hq
    have neq : e ≠ q := ne_of_none he hq
    have gone : ∀ b, b ≠ g → b ≠ dg → (upd (upd (upd (upd H p (.ins c.reader dx (putF "tokens" (.ref t) []))) p (.ins c.reader dx (putF "at" (.int 0) (putF "tokens" (.ref t) [])))) dg (.own g)) g (.ins c.prog dg [])) b = none → G0 b = none := fun b n1 n2 z => by
      rw [upd_ne n1, upd_ne n2] at z
      exact S0.free z
    have g0g : G0 g = none := S0.free hg
    have ndq : ∀ {b : Addr}, (upd (upd (upd (upd H p (.ins c.reader dx (putF "tokens" (.ref t) []))) p (.ins c.reader dx (putF "at" (.int 0) (putF "tokens" (.ref t) [])))) dg (.own g)) g (.ins c.prog dg [])) b = none → G0 b = none := fun {b} z => by
      have n1 : b ≠ g := fun y => by rw [y, upd_same] at z; cases z
      have n2 : b ≠ dg := fun y => by rw [y, upd_ne hne, upd_same] at z; cases z
      exact gone b n1 n2 z
    let G : Hp := upd G0 g (.ins c.prog dg (progF s n l e))
    have SG3 : Same G0 H3 := S0.trans S1
    have last : ∀ b, b ≠ p → b ≠ q → upd (upd (upd H3 p (.ins c.reader dx (putF "program" (.ref g) (putF "at" (.int 0) (putF "tokens" (.ref t) []))))) q (.lst [])) p (.ins c.reader dx (putF "called" (.ref q) (putF "program" (.ref g) (putF "at" (.int 0) (putF "tokens" (.ref t) []))))) b = H3 b := fun b n1 n2 => by
      rw [upd_ne n1, upd_ne n2, upd_ne n1]
    have g0q : G0 q = none := SG3.free hq
    have frees : ∀ b ∈ (RA.muts ⟨p, dx, t, g, s, n, l, e, q⟩), G0 b = none := fun b hb => by
      unfold RA.muts at hb
      simp only [List.mem_cons, List.not_mem_nil, or_false] at hb
      rcases hb with rfl | rfl | rfl | rfl | rfl | rfl
      · exact hGp
      · exact ndq fs
      · exact ndq fn
      · exact ndq fl
      · exact ndq fe
      · exact g0q
    have sub0 : Same G0 (upd (upd (upd H3 p (.ins c.reader dx (putF "program" (.ref g) (putF "at" (.int 0) (putF "tokens" (.ref t) []))))) q (.lst [])) p (.ins c.reader dx (putF "called" (.ref q) (putF "program" (.ref g) (putF "at" (.int 0) (putF "tokens" (.ref t) [])))))) := fun b o z => by
      rw [last b (ne_of_none z hGp) (ne_of_none z g0q)]
      exact SG3 b o z
    have sG : Same G0 G := Same.new g0g
    have back : ∀ {b : Addr}, b ≠ p → (upd (upd (upd (upd H p (.ins c.reader dx (putF "tokens" (.ref t) []))) p (.ins c.reader dx (putF "at" (.int 0) (putF "tokens" (.ref t) [])))) dg (.own g)) g (.ins c.prog dg [])) b = none → H b = none := fun {b} np z => by
      have n1 : b ≠ g := fun y => by rw [y, upd_same] at z; cases z
      have n2 : b ≠ dg := fun y => by rw [y, upd_ne hne, upd_same] at z; cases z
      rw [upd_ne n1, upd_ne n2, upd_ne np, upd_ne np] at z
      exact z
    have q0 : H q = none := by
      have z := S1.free hq
      rw [upd_ne (Ne.symm npq), upd_ne (Ne.symm npq)] at z
      exact z
    have g0 : H g = none := by
      rw [upd_ne (Ne.symm npg), upd_ne (Ne.symm npg)] at hg
      exact hg
    refine h _ G ⟨p, dx, t, g, s, n, l, e, q⟩ rfl ⟨fun b o z => ?_, fun b hb => ?_, ?_, ⟨0, as, ts, ?_, sG _ _ ht, hts.imp fun _ _ y => TokO.same sG y, Nat.zero_le _, rfl⟩, ⟨dg, upd_same⟩, ?_, .nil, ?_, ?_, .nil, ?_, ⟨[], ?_, .nil⟩, ?_⟩ (fun b o z np => ?_) (fun b hb => ?_) g0 (fun b o z => ?_)
    · by_cases y : b = g
      · subst y
        have z : upd G0 b (.ins c.prog dg (progF s n l e)) b = some o := z
        rw [upd_same] at z
        rw [last b (Ne.symm npg) ngq, h3]
        exact z
      · have z : upd G0 g (.ins c.prog dg (progF s n l e)) b = some o := z
        rw [upd_ne y] at z
        exact sub0 b o z
    · have y : b ≠ g := by
        unfold RA.muts at hb
        simp only [List.mem_cons, List.not_mem_nil, or_false] at hb
        rcases hb with rfl | rfl | rfl | rfl | rfl | rfl
        · exact npg
        · exact Ne.symm ngs
        · exact Ne.symm ngn
        · exact Ne.symm ngl
        · exact Ne.symm nge
        · exact Ne.symm ngq
      show upd G0 g (.ins c.prog dg (progF s n l e)) b = none
      rw [upd_ne y]
      exact frees b hb
    · unfold RA.muts
      simp only [List.nodup_cons, List.mem_cons, not_or, List.not_mem_nil, not_false_eq_true, List.nodup_nil, and_true]
      exact ⟨⟨nps, npn, npl, npe, npq⟩, ⟨nsn, nsl, nse, nsq⟩, ⟨nnl, nne, nnq⟩, ⟨nle, nlq⟩, neq⟩
    · exact upd_same.trans (congrArg (fun z => some (HO.ins c.reader dx z)) (by kernel_rfl))
    · rw [last _ (Ne.symm nps) nsq]
      exact hs
    · rw [last _ (Ne.symm npn) nnq]
      exact hn
    · rw [last _ (Ne.symm npl) nlq]
      exact hl
    · rw [last _ (Ne.symm npe) neq]
      exact he
    · rw [upd_ne (Ne.symm npq), upd_same]
      rfl
    · show 0 + ts.length ≤ 5000
      omega
    · rw [last b np (ne_of_none z q0)]
      exact S1 b o (by rw [upd_ne np, upd_ne np]; exact z)
    · unfold RA.muts at hb
      simp only [List.mem_cons, List.not_mem_nil, or_false] at hb
      rcases hb with rfl | rfl | rfl | rfl | rfl | rfl
      · exact .inl rfl
      · exact .inr (back (Ne.symm nps) fs)
      · exact .inr (back (Ne.symm npn) fn)
      · exact .inr (back (Ne.symm npl) fl)
      · exact .inr (back (Ne.symm npe) fe)
      · exact .inr q0
    · by_cases y : b = g
      · rw [y]
        exact .inr g0
      · have z : upd G0 g (.ins c.prog dg (progF s n l e)) b = some o := z
        rw [upd_ne y] at z
        exact .inl z
end
end Pk
end
section
set_option Elab.async false
set_option linter.all false
set_option maxRecDepth 100000
set_option maxHeartbeats 4000000
namespace Pk
open PySem PySem.Spec PyProof.Rows L2
open Vakepa (Piece Part Prog Raw RawPart)
open VakepBase (PTok Toks PName RESERVED word tokEq)
/-- the same but for things of one class -/
def SameX (C : Addr) (H H' : Hp) : Prop := ∀ b o, H b = some o → (∀ dx fs, o ≠ .ins C dx fs) → H' b = some o
structure Apart (c : Cs) (C : Addr) : Prop where
  say : c.say ≠ C
  call : c.call ≠ C
  make : c.make ≠ C
  when_ : c.when_ ≠ C
  part : c.part ≠ C
  prog : c.prog ≠ C
theorem SameX.ins {C D : Addr} {H H' : Hp} (e : SameX C H H') (n : D ≠ C) {o : Addr} {fs : List (Str × V)} (h : ObjAt D H o fs) : ObjAt D H' o fs := by
  obtain ⟨dx, h⟩ := h
  exact ⟨dx, e _ _ h fun d f z => by cases z; exact n rfl⟩
theorem SameX.lst {C : Addr} {H H' : Hp} (e : SameX C H H') {o : Addr} {xs : List V} (h : H o = some (.lst xs)) : H' o = some (.lst xs) := e _ _ h fun _ _ z => by cases z
theorem SameX.dk {C : Addr} {H H' : Hp} (e : SameX C H H') {o : Addr} {xs : List (Key × V)} (h : H o = some (.dK xs)) : H' o = some (.dK xs) := e _ _ h fun _ _ z => by cases z
theorem BodyL.sameX {c : Cs} {C : Addr} {ss : List VSet} {ns : List By} {H H' : Hp} (A : Apart c C) (e : SameX C H H') : ∀ {r : VStmt} {xs : List V}, BodyL c ss ns H r xs → BodyL c ss ns H' r xs
  | .done, _, h => h
  | .say _ _, _, ⟨o, ys, h1, h2, h3⟩ => ⟨o, ys, h1, e.ins A.say h2, BodyL.sameX A e h3⟩
  | .call _ _, _, ⟨o, ys, n, h1, h0, h2, h3⟩ => ⟨o, ys, n, h1, h0, e.ins A.call h2, BodyL.sameX A e h3⟩
  | .make _ _, _, ⟨o, q, ys, h1, h2, h3, h4⟩ => ⟨o, q, ys, h1, e.ins A.make h2, e.lst h3, BodyL.sameX A e h4⟩
  | .when_ _ _ _ _, _, ⟨o, q, zs, ys, h1, h2, h3, h4, h5⟩ => ⟨o, q, zs, ys, h1, e.ins A.when_ h2, e.lst h3, BodyL.sameX A e h4, BodyL.sameX A e h5⟩
theorem PartAt.sameX {c : Cs} {C : Addr} {ss : List VSet} {ns : List By} {H H' : Hp} (A : Apart c C) (e : SameX C H H') {o : Addr} {x : Part} (h : PartAt c ss ns H o x) : PartAt c ss ns H' o x := by
  obtain ⟨b, xs, h1, h2, h3⟩ := h
  exact ⟨b, xs, e.ins A.part h1, e.lst h2, h3.sameX A e⟩
theorem SetAt.sameX {C : Addr} {H H' : Hp} (e : SameX C H H') {kv : Key × V} {s : VSet} (h : SetAt H kv s) : SetAt H' kv s := by
  obtain ⟨h1, a, h2, h3⟩ := h
  exact ⟨h1, a, h2, e.lst h3⟩
theorem All2.flip {α β : Type} {R : α → β → Prop} : ∀ {l : List α} {m : List β}, All2 R l m → All2 (fun b a => R a b) m l
  | _, _, .nil => .nil
  | _, _, .cons r t => .cons r t.flip
theorem All2.comp {α β γ : Type} {R : α → β → Prop} {S : β → γ → Prop} {T : α → γ → Prop} (h : ∀ a b d, R a b → S b d → T a d) : ∀ {l : List α} {m : List β} {n : List γ}, All2 R l m → All2 S m n → All2 T l n
  | _, _, _, .nil, .nil => .nil
  | _, _, _, .cons r t, .cons s u => .cons (h _ _ _ r s) (All2.comp h t u)
section
variable {P : Program} {w : World} {K : PySem.W.Frag} {mg : Str → Option Value} {base : Heap} {c : Cs}
/-! ### read_program -/
open Classical in
noncomputable def tokOnly (C pt : Addr) (H : Hp) : Hp := fun b => if b = pt ∨ (∃ dx fs, H b = some (.ins C dx fs)) then H b else none
theorem tokOnly_sub {C pt : Addr} {H : Hp} : Same (tokOnly C pt H) H := fun b o e => by
  unfold tokOnly at e
  split at e
  · exact e
  · cases e
theorem tokOnly_of {C pt b : Addr} {H : Hp} {o : HO} (e : tokOnly C pt H b = some o) : b = pt ∨ ∃ dx fs, o = .ins C dx fs := by
  have e1 := tokOnly_sub _ _ e
  unfold tokOnly at e
  split at e
  · rename_i q
    rcases q with q | ⟨dx, fs, q⟩
    · exact .inl q
    · rw [q] at e1
      exact .inr ⟨dx, fs, (Option.some.inj e1).symm⟩
  · cases e
theorem tokOnly_toks {C pt : Addr} {H : Hp} {ts : Toks} (h : ToksAt C H pt ts) : ToksAt C (tokOnly C pt H) pt ts := by
  obtain ⟨as, h1, h2⟩ := h
  refine ⟨as, ?_, h2.imp fun a t ⟨af, dx, q⟩ => ⟨af, dx, ?_⟩⟩
  · unfold tokOnly
    rw [if_pos (.inl rfl)]
    exact h1
  · unfold tokOnly
    rw [if_pos (.inr ⟨_, _, q⟩)]
    exact q
open Classical in
noncomputable def newOnly (H H' : Hp) : Hp := fun b => if H b = none then H' b else none
theorem newOnly_sub {H H' : Hp} : Same (newOnly H H') H' := fun b o e => by
  unfold newOnly at e
  split at e
  · exact e
  · cases e
theorem newOnly_at {H H' : Hp} {b : Addr} (h : H b = none) : newOnly H H' b = H' b := by
  unfold newOnly
  rw [if_pos h]
theorem newOnly_old {H H' : Hp} {b : Addr} {o : HO} (h : H b = some o) : newOnly H H' b = none := by
  unfold newOnly
  rw [if_neg (by rw [h]; intro z; cases z)]
theorem RawPartAt.solved {c : Cs} {ss : List VSet} {ns : List By} {G : Hp} {o : Addr} {q : RawPart} {p : Part} (h : RawPartAt c ss G o q) (s : Solved ns q p) : PartAt c ss ns G o p := by
  obtain ⟨b, xs, h1, h2, h3⟩ := h
  obtain ⟨_, s2, s3⟩ := s
  exact ⟨b, xs, by rw [s2]; exact h1, h2, h3.solved s3⟩
def readEnds (c : Cs) (b : By) (H : Hp) (Q : VK) (E : XK) : Prop := match Vakepa.read b with
  | .error f => FP c.fault H E f.code f.place
  | .ok p => ∀ (H' Gp : Hp) (g : Addr) (a : PA) (kvs : List (Key × V)) (os : List Addr), Same H H' → Same Gp H' → (∀ b o, H b = some o → Gp b = none) → ProgAt c Gp g a p kvs os → WF p → Q (.ref g) H'
def spRead (K : PySem.W.Frag) (c : Cs) : Sp := fun vs H Q E => ∃ (a : Addr) (b : By), vs = [.ref a] ∧ SqL K H a (bL b) ∧ b.length ≤ 10000 ∧ readEnds c b H Q E
theorem scRead : FnScope ["text", "reader"] ["text"] (defScope s_read_program) := ⟨rfl, rfl, rfl, by decide +kernel, rfl, by decide +kernel, by decide +kernel⟩
theorem takeLast_is {t : PTok} {l : Toks} : VakepBase.next .last (t :: l) = decide (kindS t.tok = "end") := by
  show tokEq t.tok .last = _
  obtain ⟨p, t⟩ := t
  cases t with
  | last => exact (decide_eq_true rfl).symm
  | name b =>
    refine (decide_eq_false ?_).symm
    intro z
    have := kind_end.mp z
    cases this
  | num b =>
    refine (decide_eq_false ?_).symm
    intro z
    have := kind_end.mp z
    cases this
  | sign b =>
    refine (decide_eq_false ?_).symm
    intro z
    have := kind_end.mp z
    cases this
theorem ok_read {fF : Addr} (T : RdT K mg c fF) (AT : Apart c c.tok) (gl : GI mg "LENGTH" 1) (gm : GI mg "LONGEST_TEXT" 4096) (D : DefAt K mg "read_program" s_read_program)
    (A0 : Ok P w K mg base (L2.CX P w) 5 "tokens_of" ["text"] (spToks K c.tok c.fault)) (A1 : OkI P w K mg base CX0 3 c.reader "Reader" ["self", "tokens"] (spReadI c))
    (A2 : OkM P w K mg base (L2.CX P w) 5 c.reader "read_settings" ["self"] (spSets c)) (A3 : OkM P w K mg base (L2.CX P w) 17 c.reader "read_parts" ["self"] (spParts c)) (A4 : OkM P w K mg base (L2.CX P w) 4 c.reader "read_entries" ["self"] (spEnts c))
    (A5 : OkM P w K mg base (L2.CX P w) 2 c.reader "take" ["self", "kind"] (spTake c)) (A6 : OkM P w K mg base (L2.CX P w) 2 c.reader "check_calls" ["self"] (spCheck c)) : Ok P w K mg base (L2.CX P w) 18 "read_program" ["text"] (spRead K c) := by
  refine Ok.mk' D (fun f fd F => F.okX scRead (fun vs H Q E h => ?_) (fun cdv A outer s0 H vs Q E hr h => ?_)) (fun _ _ _ _ _ _ us hl => match us, hl with | [_], _ => rfl)
  · obtain ⟨a, b, rfl, _⟩ := h
    rfl
  · obtain ⟨a, b, rfl, hs, hlen, h⟩ := h
    have Tr := T.cs.reader
    refine ⟨_, pss_cons (ps_if (pt_cmpR op_gt (pe_callB call_len_seq (by rfl) T.len PySem.boot_len (pa_cons (pv 0) pa_nil)) (gi gm) (nomark _)) (pss_one (ps_raiseF rfl T.ft hr (takes_of rfl rfl rfl rfl) (by exact (pa_cons (gi gl) (pa_cons (gi gm) pa_nil))))) pss_nil)
      (pss_cons (ps_set (i := 1) scRead.nd rfl (.inl rfl) (ci A1 (hr.mono (by decide)) pass0 (pa_cons (cl A0 (hr.mono (by decide)) pout (pa_cons (pv 0) pa_nil)) pa_nil)))
      (pss_cons (ps_expr (cm0 (pv 1) Tr.cl A2 (hr.mono (by decide)) pout))
      (pss_cons (ps_expr (cm0 (pv 1) Tr.cl A3 (hr.mono (by decide)) pout))
      (pss_cons (ps_expr (cm0 (pv 1) Tr.cl A4 (hr.mono (by decide)) pout))
      (pss_cons (ps_expr (cm (pv 1) Tr.cl A5 (hr.mono (by decide)) pout (pa_cons pe_str pa_nil)))
      (pss_cons (ps_expr (cm0 (pv 1) Tr.cl A6 (hr.mono (by decide)) pout))
      (pss_one (ps_ret (pe_fld (pv 1) rfl))))))))), ?_⟩
    unfold readEnds Vakepa.read VakepBase.tokens at h
    refine ⟨_, rfl, _, _, rfl, .inl hs, _, _, rfl, rfl, _, rfl, ?_⟩
    rw [bL_len]
    refine ited (fun h1 => ?_) (fun h1 => ?_)
    · have z : VakepBase.TEXT < b.length := by show 4096 < b.length; omega
      rw [if_pos z] at h
      have h : FP c.fault H E 1 4096 := h
      exact ⟨_, _, rfl, fun d hd => FP.now h (Same.refl H) hd⟩
    · have z : ¬ VakepBase.TEXT < b.length := by show ¬ 4096 < b.length; omega
      rw [if_neg z] at h
      refine ⟨_, rfl, a, b, rfl, hs, hlen, ?_⟩
      unfold toksEnds lexAt
      rw [List.drop_zero]
      cases e1 : VakepBase.lex (b.length + 1) 0 b with
      | error f =>
        rw [e1] at h
        exact h
      | ok ts =>
        rw [e1] at h
        obtain ⟨tk1, tk2, tk3⟩ := lex_inv _ _ _ e1
        intro H1 pt S1 npt hts
        have h : match (Vakepa.takeSets (ts.length + 1) [] ts).bind fun s => (Vakepa.takeParts s.1 (s.2.length + 1) [] s.2).bind fun p => (VakepBase.takeWord "start" p.2).bind fun r => (Vakepa.takeStarts (p.1.map fun x => x.name) (r.length + 1) [] r).bind fun e => (Vakepa.solveParts (p.1.map fun x => x.name) p.1).map fun ps => (⟨s.1, ps, e⟩ : Prog) with
          | .error f => FP c.fault H E f.code f.place
          | .ok p => ∀ (H' Gp : Hp) (g : Addr) (a : PA) (kvs : List (Key × V)) (os : List Addr), Same H H' → Same Gp H' → (∀ b o, H b = some o → Gp b = none) → ProgAt c Gp g a p kvs os → WF p → Q (.ref g) H' := h
        refine (fun r dx hr0 hdx hne => ?_)
        have hr00 : H r = none := S1.free hr0
        have up : ∀ {b : Addr} {o : HO}, H1 b = some o → upd (upd H1 dx (.own r)) r (.ins c.reader dx []) b = some o := fun {b o} e => by
          rw [upd_ne (ne_of_none e hr0), upd_ne (ne_of_none e hdx)]
          exact e
        refine ⟨r, dx, pt, ts, tokOnly c.tok pt H1, rfl, upd_same, fun b o e => up (tokOnly_sub _ _ e), tokOnly_sub.free hr0, tokOnly_toks hts, by omega, fun H2 G x hx R0 k1 k2 k3 k4 => ⟨rfl, ?_⟩⟩
        subst hx
        have same : ∀ H', Fr x H2 H' → Same H H' := fun H' fr b o e => fr.1 b o (k1 b o (up (S1 _ _ e)) (ne_of_none e hr00)) fun z => by
          rcases k2 b z with y | y
          · exact ne_of_none e hr00 y
          · rw [up (S1 _ _ e)] at y
            cases y
        have mnew : ∀ b ∈ x.muts, H b = none := fun b hb => by
          rcases k2 b hb with y | y
          · rw [y]
            exact hr00
          · cases z : H b with
            | none => rfl
            | some o =>
              rw [up (S1 _ _ z)] at y
              cases y
        have fx : ∀ {H' : Hp} {code place : Nat}, Fr x H2 H' → FP c.fault H E code place → FX c x H' E code place := fun {H' code place} fr h d H'' f e => h d H'' (same _ (fr.trans f)) e
        obtain ⟨j0, ho0⟩ := R0.obj
        refine ⟨_, rfl, x.r, x.dx, _, rfl, ho0, readerF_no (by decide), x, G, _, rfl, R0, tk2, rfl, rfl, rfl, rfl, ?_⟩
        show setsEnds c x G H2 _ (Vakepa.takeSets (ts.length + 1) [] ts) _ _
        cases e2 : Vakepa.takeSets (ts.length + 1) [] ts with
        | error f =>
          rw [e2] at h
          exact fx Fr.refl h
        | ok sm =>
          obtain ⟨ss, m⟩ := sm
          rw [e2] at h
          intro G3 H3 kvs X3 R3 hen3 hl3
          obtain ⟨j3, ho3⟩ := R3.obj
          refine ⟨_, rfl, x.r, x.dx, _, rfl, ho3, readerF_no (by decide), x, G3, _, rfl, R3, hen3, rfl, rfl, rfl, rfl, ?_⟩
          show partsEnds c x G3 H3 _ (Vakepa.takeParts ss (m.length + 1) [] m) _ _
          have h : match (Vakepa.takeParts ss (m.length + 1) [] m).bind fun p => (VakepBase.takeWord "start" p.2).bind fun r => (Vakepa.takeStarts (p.1.map fun x => x.name) (r.length + 1) [] r).bind fun e => (Vakepa.solveParts (p.1.map fun x => x.name) p.1).map fun ps => (⟨ss, ps, e⟩ : Prog) with
            | .error f => FP c.fault H E f.code f.place
            | .ok p => ∀ (H' Gp : Hp) (g : Addr) (a : PA) (kvs : List (Key × V)) (os : List Addr), Same H H' → Same Gp H' → (∀ b o, H b = some o → Gp b = none) → ProgAt c Gp g a p kvs os → WF p → Q (.ref g) H' := h
          cases e3 : Vakepa.takeParts ss (m.length + 1) [] m with
          | error f =>
            rw [e3] at h
            exact fx X3.fr h
          | ok pm =>
            obtain ⟨ps, m2⟩ := pm
            rw [e3] at h
            intro G4 H4 os X4 R4 hen4 hl4
            have fr4 := X3.fr.trans X4.fr
            obtain ⟨j4, ho4⟩ := R4.obj
            refine ⟨_, rfl, x.r, x.dx, _, rfl, ho4, readerF_no (by decide), x, G4, _, rfl, R4, hen4, rfl, ?_⟩
            show entEnds c x G4 H4 _ ((VakepBase.takeWord "start" m2).bind fun r => takeEnt (ps.map fun q => q.name) (r.length + 1) [] r) _ _
            have h : match ((VakepBase.takeWord "start" m2).bind fun r => takeEnt (ps.map fun q => q.name) (r.length + 1) [] r).bind fun em => (if VakepBase.next .last em.2 = true then (.ok em.1 : Except VakepBase.Fault (List Nat)) else VakepBase.wrong em.2).bind fun e => (Vakepa.solveParts (ps.map fun x => x.name) ps).map fun ps => (⟨ss, ps, e⟩ : Prog) with
              | .error f => FP c.fault H E f.code f.place
              | .ok p => ∀ (H' Gp : Hp) (g : Addr) (a : PA) (kvs : List (Key × V)) (os : List Addr), Same H H' → Same Gp H' → (∀ b o, H b = some o → Gp b = none) → ProgAt c Gp g a p kvs os → WF p → Q (.ref g) H' := by
              rw [exc_bind_bind]
              have ee : ((VakepBase.takeWord "start" m2).bind fun r => (takeEnt (ps.map fun q => q.name) (r.length + 1) [] r).bind fun em => (if VakepBase.next .last em.2 = true then (.ok em.1 : Except VakepBase.Fault (List Nat)) else VakepBase.wrong em.2).bind fun e => (Vakepa.solveParts (ps.map fun x => x.name) ps).map fun ps => (⟨ss, ps, e⟩ : Prog)) = (VakepBase.takeWord "start" m2).bind fun r => (Vakepa.takeStarts (ps.map fun x => x.name) (r.length + 1) [] r).bind fun e => (Vakepa.solveParts (ps.map fun x => x.name) ps).map fun ps => (⟨ss, ps, e⟩ : Prog) := exc_bind_congr fun r => by
                rw [takeStarts_is, exc_bind_bind]
              rw [ee]
              exact h
            cases e4 : (VakepBase.takeWord "start" m2).bind fun r => takeEnt (ps.map fun q => q.name) (r.length + 1) [] r with
            | error f =>
              rw [e4] at h
              exact fx fr4 h
            | ok em =>
              obtain ⟨es, m3⟩ := em
              rw [e4] at h
              intro H5 fr5 R5 hen5
              have fr05 := fr4.trans fr5
              obtain ⟨j5, ho5⟩ := R5.obj
              obtain ⟨t, l, rfl⟩ := endy_ne hen5
              have h : match (if VakepBase.next .last (t :: l) = true then (.ok es : Except VakepBase.Fault (List Nat)) else VakepBase.wrong (t :: l)).bind fun e => (Vakepa.solveParts (ps.map fun x => x.name) ps).map fun ps => (⟨ss, ps, e⟩ : Prog) with
                | .error f => FP c.fault H E f.code f.place
                | .ok p => ∀ (H' Gp : Hp) (g : Addr) (a : PA) (kvs : List (Key × V)) (os : List Addr), Same H H' → Same Gp H' → (∀ b o, H b = some o → Gp b = none) → ProgAt c Gp g a p kvs os → WF p → Q (.ref g) H' := h
              refine ⟨_, rfl, x.r, x.dx, _, rfl, ho5, readerF_no (by decide), x, G4, _, t, l, _, rfl, R5, rfl, fun e H6 pp R6 f6 ht => ?_, fun ne => ?_⟩
              · rw [takeLast_is, decide_eq_true e, if_pos rfl] at h
                have h : match (Vakepa.solveParts (ps.map fun x => x.name) ps).map fun ps => (⟨ss, ps, es⟩ : Prog) with
                  | .error f => FP c.fault H E f.code f.place
                  | .ok p => ∀ (H' Gp : Hp) (g : Addr) (a : PA) (kvs : List (Key × V)) (os : List Addr), Same H H' → Same Gp H' → (∀ b o, H b = some o → Gp b = none) → ProgAt c Gp g a p kvs os → WF p → Q (.ref g) H' := h
                have fr06 := fr05.trans f6
                obtain ⟨j6, ho6⟩ := R6.obj
                refine ⟨_, rfl, x.r, x.dx, _, rfl, ho6, readerF_no (by decide), x, G4, _, rfl, R6, ?_⟩
                have sp := solveParts_is (ps.map fun x => x.name) ps
                show match firstBad (ps.map fun q => q.name) (partsCalled ps) with
                  | none => _
                  | some n => FX c x H6 E 9 n.place
                cases e5 : firstBad (ps.map fun q => q.name) (partsCalled ps) with
                | some n =>
                  rw [e5] at sp
                  have sp : Vakepa.solveParts (ps.map fun x => x.name) ps = .error ⟨9, n.place⟩ := sp
                  rw [sp] at h
                  exact fx fr06 h
                | none =>
                  rw [e5] at sp
                  obtain ⟨rs, sp1, sp2⟩ := sp
                  rw [sp1] at h
                  refine ⟨_, rfl, x.r, c.reader, x.dx, _, _, rfl, ho6, Tr.cl, Tr.no _ (by decide), readerF_g, ?_⟩
                  have gnew : ∀ b o, G4 b = some o → (∀ dx fs, o ≠ .ins c.tok dx fs) → H b = none := fun b o e nt => by
                    have sH : ∀ {H' : Hp}, Fr x H2 H' → H' b = none → H b = none := fun {H'} fr z => (same _ fr).free z
                    rcases X4.new b o e with q | q
                    · rcases X3.new b o q with q | q
                      · rcases k4 b o q with q | q
                        · rcases tokOnly_of q with q | ⟨dx, fs, q⟩
                          · rw [q]
                            exact npt
                          · exact absurd q (nt dx fs)
                        · cases z : H b with
                          | none => rfl
                          | some o =>
                            rw [up (S1 _ _ z)] at q
                            cases q
                      · exact sH Fr.refl q
                    · exact sH X3.fr q
                  have sx : SameX c.tok G4 (newOnly H H6) := fun b o e nt => by
                    rw [newOnly_at (gnew b o e nt)]
                    exact R6.sub b o e
                  have nm : (rs.map fun x => x.name) = ps.map fun q => q.name := solved_names sp2
                  have prts : All2 (PartAt c ss (rs.map fun x => x.name) (newOnly H H6)) os rs := by
                    rw [nm]
                    exact All2.comp (R := RawPartAt c ss G4) (S := Solved (ps.map fun x => x.name)) (fun o q p h1 h2 => PartAt.sameX AT sx (RawPartAt.solved h1 h2)) R6.parts sp2
                  obtain ⟨r4, e6, e7⟩ := bind_ok e4
                  have wf : WF ⟨ss, rs, es⟩ := by
                    refine read_wf (b := b) tk1 e2 e3 (n := r4.length + 1) (r := r4) ?_ sp2
                    rw [takeStarts_is, e7]
                    show (if VakepBase.next .last (t :: l) = true then (.ok es : Except VakepBase.Fault (List Nat)) else VakepBase.wrong (t :: l)) = _
                    rw [takeLast_is, decide_eq_true e, if_pos rfl]
                  have mm : ∀ b ∈ x.muts, newOnly H H6 b = H6 b := fun b hb => newOnly_at (mnew b hb)
                  refine h H6 (newOnly H H6) x.g ⟨x.ds, x.dn, x.lp, x.le⟩ kvs os (same _ fr06) newOnly_sub (fun b o e => newOnly_old e) ⟨sx.ins AT.prog R6.prog, ?_, R6.sets.imp fun _ _ q => q.sameX sx, ?_, ?_, prts, ?_⟩ wf
                  · exact (mm x.ds (by unfold RA.muts; simp)).trans R6.ds
                  · refine (mm x.dn (by unfold RA.muts; simp)).trans (R6.dn.trans ?_)
                    show some (HO.dK (numsFrom 0 (ps.map fun q => q.name))) = some (HO.dK (numsFrom 0 (rs.map fun x => x.name)))
                    rw [nm]
                  · exact (mm x.lp (by unfold RA.muts; simp)).trans R6.lp
                  · exact (mm x.le (by unfold RA.muts; simp)).trans R6.le
              · rw [takeLast_is, decide_eq_false ne, if_neg Bool.false_ne_true] at h
                exact fx fr05 h
end
end Pk
end
section
set_option Elab.async false
set_option linter.all false
set_option maxRecDepth 100000
set_option maxHeartbeats 4000000
namespace PySem
open PySem.AutoSeq1
theorem list_extend_tup (l : Addr) (items : Array Value) (n : Nat) (b : Addr) (o : Obj) (items2 : Array Value) (n2 : Nat) (hc : o.cls = .type "tuple") (hd : o.data = .seq items2 n2) (hs0 : ¬(!items.isEmpty && Builtin.List.listTooLong (items.size + items2.size)) = true) (hs1 : items.size ≤ sizeLine) (hs2 : items.size + items2.size ≤ sizeLine + 1) :
    Meets (Builtin.«list.extend» ⟨[.ref l, .ref b], []⟩) (fun _ R s => s.heap.get? l = some { cls := .type "list", dict := none, data := .seq items n, slots := #[] } ∧ s.heap.get? b = some o ∧ R (.ok (.ret Value.none)) { s with heap := s.heap.update l (Obj.mapSeq fun x => x ++ items2), toks := s.toks }) :=
  .of_wp fun prog w A R s h => by
    obtain ⟨cls, dict, data, slots⟩ := o
    have hc : cls = .type "tuple" := hc
    have hd : data = .seq items2 n2 := hd
    subst hc hd
    obtain ⟨hp, g, d, tk, os⟩ := s; obtain ⟨hl, hb, h⟩ := h; have f1 := idx_int; have f2 := sub_tuple_tuple; have f3 := sub_list_list; have f4 := sub_tuple_list; have f5 := sub_list_tuple;
    have hz' : (items ++ items2).size ≤ sizeLine + 1 := by rw [Array.size_append]; exact hs2
    wp_walk using (wpAny_updateSeq hl rfl (hz := hs1) (_hz' := hz')), wpAny_loadPart' hl, wpAny_loadPart' hb; exact ⟨_, rfl, h⟩
end PySem
namespace Pk
open PySem PySem.Spec PyProof.Rows L2
section
variable {X : Cx}
/-- xs[i], by values -/
theorem get_list : PGet X (rIxL X.K) := by
  intro pins s σ H x y v u Q I rx ry h
  obtain ⟨p, xs, i, z, rfl, rfl, hq, he, q⟩ := h
  cases rx
  obtain ⟨t, rfl⟩ := ry
  obtain ⟨its, r, pl, hz⟩ := I.list hq
  obtain ⟨j, h1, h2, h3, h4, h5⟩ := atI_get he
  obtain ⟨w, ew, rw'⟩ := r.get h2
  have hl := r.length
  have hn := line63
  have fin : EP X pins σ Q w s := ⟨z, H, I, rw', q⟩
  by_cases h0 : 0 ≤ i
  · have hj : i.toNat = j := by
      rw [seqIndex_of h0 h5] at h1
      exact Option.some.inj h1
    exact wpAny_getItem_list (x := w) pl.isList h0 (by omega) (by rw [hj]; simpa using ew) fin
  · have hj : (i + (its.toArray.size : Int)).toNat = j := by
      rw [seqIndex_neg (by omega) h4] at h1
      rw [List.size_toArray, ← hl]
      exact Option.some.inj h1
    exact wpAny_getItem_list_neg (x := w) pl.isList (by omega) (by rw [List.size_toArray] <;> omega) (by omega) (by rw [hj]; simpa using ew) fin
/-- xs.extend(a tuple) -/
def rExtendT (K : PySem.W.Frag) : V → List V → Hp → VK → Prop := fun x vs H Q => ∃ l b xs zs, x = .ref l ∧ vs = [.ref b] ∧ H l = some (.lst xs) ∧ SqT K H b zs ∧ xs.length + zs.length ≤ sizeLine ∧ Q .non (upd H l (.lst (xs ++ zs)))
theorem mt_extendT : MtM X "list.extend" (rExtendT X.K) := by
  intro pins s σ H x vs v us Q I rx rv h
  obtain ⟨l, b, xs, zs, rfl, rfl, hH, hB, hz, q⟩ := h
  cases rx
  obtain ⟨u, rfl, ru⟩ := rv.one
  cases ru
  obtain ⟨z, its, n, r, hl, e⟩ := I.lstM hH
  obtain ⟨its2, r2, ⟨o, e2, hc, n2, hd⟩, z2⟩ := I.tuple hB
  have hl2 := r2.length
  have hsz : its.toArray.size + its2.toArray.size ≤ sizeLine := by rw [List.size_toArray, List.size_toArray]; omega
  have hlong : ¬ (!its.toArray.isEmpty && Builtin.List.listTooLong (its.toArray.size + its2.toArray.size)) = true := by
    rw [notLongL hsz, Bool.and_false]
    exact Bool.false_ne_true
  refine call_meets F.slot_list_extend ⟨_, e, rfl⟩ F.entry_list_extend (F.args_list_extend_2 _ _)
    (PySem.list_extend_tup l its.toArray n b o its2.toArray n2 hc hd hlong (by rw [List.size_toArray]; omega) (by omega)) ⟨e, e2, ?_⟩
  refine ⟨.non, _, I.lset (its' := its ++ its2) hH e (by simp) (r.append r2) ?_, rfl, q⟩
  rw [List.length_append]
  omega
end
end Pk
end
section
set_option Elab.async false
set_option linter.all false
set_option maxHeartbeats 4000000
namespace Pk
open Vakepa (Part Prog)
/-! ### packs' sizes, part by part -/
def sizeAt (p : Prog) (k : Nat) : Nat := ((p.parts[k]?).map fun x => x.size).getD 0
def packTo (p : Prog) (pl : List Nat) (n i : Nat) : Nat := (((List.range i).filter fun k => Vakepe.packOf pl k == n).map (sizeAt p)).sum
def sizesTo (p : Prog) (pl : List Nat) (i : Nat) : List Nat := (List.range 4).map fun n => packTo p pl n i
theorem sizesTo_all (p : Prog) (pl : List Nat) : sizesTo p pl p.parts.length = Vakepe.sizesOf p pl := rfl
theorem sizesTo_zero (p : Prog) (pl : List Nat) : sizesTo p pl 0 = [0, 0, 0, 0] := rfl
theorem packTo_succ (p : Prog) (pl : List Nat) (n i : Nat) : packTo p pl n (i + 1) = packTo p pl n i + if Vakepe.packOf pl i = n then sizeAt p i else 0 := by
  unfold packTo
  rw [List.range_succ, List.filter_append, List.map_append, List.sum_append]
  congr 1
  rw [List.filter_cons, List.filter_nil]
  by_cases h : Vakepe.packOf pl i = n
  · rw [if_pos h, if_pos (by rw [h]; exact beq_self_eq_true n)]
    simp
  · rw [if_neg h, if_neg (by simpa using h)]
    simp
theorem sizesTo_len (p : Prog) (pl : List Nat) (i : Nat) : (sizesTo p pl i).length = 4 := by
  unfold sizesTo
  rw [List.length_map, List.length_range]
theorem sizesTo_at (p : Prog) (pl : List Nat) (i : Nat) {n : Nat} (h : n < 4) : (sizesTo p pl i)[n]? = some (packTo p pl n i) := by
  unfold sizesTo
  rw [List.getElem?_map, List.getElem?_range h]
  rfl
theorem sizesTo_succ (p : Prog) (pl : List Nat) {i n : Nat} (h : pl[i]? = some n) (hn : n < 4) : sizesTo p pl (i + 1) = (sizesTo p pl i).set n (packTo p pl n i + sizeAt p i) := by
  have e : Vakepe.packOf pl i = n := by
    unfold Vakepe.packOf
    rw [List.getD_eq_getElem?_getD, h]
    rfl
  apply List.ext_getElem?
  intro j
  rw [List.getElem?_set]
  by_cases hj : j < 4
  · rw [sizesTo_at p pl (i + 1) hj, packTo_succ, e]
    by_cases q : n = j
    · subst q
      rw [if_pos rfl, if_pos rfl, if_pos (by rw [sizesTo_len]; exact hn)]
    · rw [if_neg q, if_neg q, sizesTo_at p pl i hj]
      rfl
  · rw [List.getElem?_eq_none (by rw [sizesTo_len]; omega)]
    rw [if_neg (by omega), List.getElem?_eq_none (by rw [sizesTo_len]; omega)]
end Pk
end
section
set_option Elab.async false
set_option linter.all false
set_option maxRecDepth 100000
set_option maxHeartbeats 4000000
namespace Pk
open PySem PySem.Spec PyProof.Rows L2
open Vakepa (Piece Part Prog Raw RawPart)
def nI (k : Nat) : V := .int (k : Int)
def nL (l : List Nat) : List V := l.map nI
theorem nL_len (l : List Nat) : (nL l).length = l.length := List.length_map ..
theorem nL_at {l : List Nat} {i k : Nat} (h : l[i]? = some k) : (nL l)[i]? = some (.int (k : Int)) := by
  unfold nL
  rw [List.getElem?_map, h]
  rfl
/-- a plan of that many parts, each in one of four packs -/
structure PlanOk (p : Prog) (pl : List Nat) : Prop where
  len : pl.length = p.parts.length
  lt : ∀ n ∈ pl, n < 4
section
variable {P : Program} {w : World} {K : PySem.W.Frag} {mg : Str → Option Value} {base : Heap} {c : Cs}
def spSizes (K : PySem.W.Frag) (c : Cs) : Sp := fun vs H Q _ => ∃ (g l : Addr) (a : PA) (p : Prog) (kvs : List (Key × V)) (os : List Addr) (pl : List Nat), vs = [.ref g, .ref l] ∧ ProgAt c H g a p kvs os ∧ WF p ∧ SqL K H l (nL pl) ∧ PlanOk p pl ∧
  ∀ (H' : Hp) (q : Addr), Same H H' → H q = none → H' q = some (.lst (nL (Vakepe.sizesOf p pl))) → Q (.ref q) H'
theorem scSizes : FnScope ["program", "plan", "sizes", "part", "pack"] ["program", "plan"] (defScope s_pack_sizes) := ⟨rfl, rfl, rfl, by decide +kernel, rfl, by decide +kernel, by decide +kernel⟩
theorem ok_sizes (T : CsT K c) (he : mg "enumerate" = none) (gp : GI mg "PACKS" 4) (D : DefAt K mg "pack_sizes" s_pack_sizes) : Ok P w K mg base CX0 1 "pack_sizes" ["program", "plan"] (spSizes K c) := by
  refine Ok.mk' D (fun f fd F => F.ok scSizes (fun vs H Q E h => ?_) (fun cdv A outer s H vs Q E hr h => ?_)) (fun _ _ _ _ _ _ us hl => match us, hl with | [_, _], _ => rfl)
  · obtain ⟨g, l, a, p, kvs, os, pl, rfl, _⟩ := h
    rfl
  · obtain ⟨g, l, a, p, kvs, os, pl, rfl, PAt, W, hl, PO, h⟩ := h
    refine ⟨_, pss_cons (ps_set (i := 2) scSizes.nd rfl (.inl rfl) (pe_op op_rep (pe_lst (pa_cons pe_int pa_nil)) (gi gp)))
      (pss_cons (ps_for PassesOwn.never rfl (pi_enum (by rfl) he (pa_cons (pv 1) pa_nil)) (pg_tup rfl (pgs_cons (pg_name (i := 3) scSizes.nd rfl (.inl rfl)) (pgs_cons (pg_name (i := 4) scSizes.nd rfl (.inl rfl)) pgs_nil)))
        (pss_one (ps_augS (pv 2) (pv 4) get_list (pe_fld (pe_ix ix_list (pe_fld (pv 0) rfl) (pv 3) (fun _ _ => rfl)) rfl) ip_add set_list)))
      (pss_one (ps_ret (pv 2)))), ?_⟩
    obtain ⟨gx, hg⟩ := PAt.obj
    have hsz : sizeLine = 16777216 := sizeLine_eq
    refine ⟨by show 1 ≤ sizeLine; omega, fun q1 hq1 => ?_⟩
    refine ⟨q1, 4, _, rfl, rfl, upd_same, by decide, by decide, by show 1 * 4 ≤ sizeLine; omega, fun q hq => ?_⟩
    have s1 : Same H (upd H q1 (.lst [.int 0])) := Same.new hq1
    have hq0 : H q = none := s1.free hq
    have s2 := s1.trans (Same.new (o := .lst (List.replicate (4 : Int).toNat [V.int 0]).flatten) hq)
    refine ⟨_, rfl, l, _, rfl, s2.seq hl, ?_⟩
    refine for_it walk_enum (fun i σ H' => ∃ v3 v4 : Option V, σ = [some (.ref g), some (.ref l), some (.ref q), v3, v4] ∧ Same H H' ∧ H' q = some (.lst (nL (sizesTo p pl i))))
      ⟨none, none, rfl, s2, upd_same⟩ (fun i σ H' _ ⟨_, _, _, k, _⟩ => k.seq hl) ?_ ?_
    · rintro i x σ H1 H2 hi ⟨v3, v4, rfl, k1, k2⟩ ⟨t, y, z, rfl, ht, rfl, hy, hz⟩
      rw [nL_len] at hi
      have hpi : pl[i]? = some pl[i] := List.getElem?_eq_getElem hi
      have hn := PO.lt _ (List.mem_of_getElem? hpi)
      dsimp only at hy hz
      rw [nL_at hpi] at hz
      have hy : V.int ((i : Nat) : Int) = y := Option.some.inj hy
      have hz : V.int (pl[i] : Int) = z := Option.some.inj hz
      subst hy hz
      have nqt : q ≠ t := ne_of_none k2 ht
      have s3 := k1.trans (Same.new (o := .tup [V.int ((i : Nat) : Int), V.int (pl[i] : Int)]) ht)
      have hip : i < p.parts.length := by rw [← PO.len]; exact hi
      have hp1 : p.parts[i]? = some p.parts[i] := List.getElem?_eq_getElem hip
      obtain ⟨o, ho, b, xs, ⟨ox, h1⟩, _⟩ := PAt.parts.get hp1
      refine ⟨t, _, rfl, SqT.of upd_same, rfl, _, _, rfl, _, _, rfl, rfl, ?_⟩
      refine ⟨_, rfl, _, rfl, q, _, _, _, rfl, rfl, SqL.of ((upd_ne nqt).trans k2), atI_nat (nL_at (sizesTo_at p pl i hn)), ?_⟩
      refine ⟨_, rfl, g, c.prog, gx, _, _, rfl, s3 _ _ hg, T.prog.cl, T.prog.no _ (by decide), progF_p, _, rfl, a.lp, _, _, _, rfl, rfl, SqL.of (s3 _ _ PAt.lp), atI_nat (v := .ref o) (by rw [List.getElem?_map, ho]; rfl), ?_⟩
      refine ⟨o, c.part, ox, _, _, rfl, s3 _ _ h1, T.part.cl, T.part.no _ (by decide), partF_size, _, _, rfl, rfl, ?_⟩
      refine ⟨q, _, _, _, rfl, rfl, (upd_ne nqt).trans k2, (show ixN _ _ = some pl[i] from ?_), ?_⟩
      · unfold ixN
        rw [nL_len, sizesTo_len, if_pos (by omega), if_pos (by omega)]
        simp
      · refine ⟨_, _, rfl, fun b o e => ?_, ?_⟩
        · rw [upd_ne (ne_of_none e hq0)]
          exact s3 b o e
        · rw [upd_same, sizesTo_succ p pl hpi hn]
          have e : sizeAt p i = p.parts[i].size := by unfold sizeAt; rw [hp1]; rfl
          unfold nL
          rw [List.map_set, e]
          rfl
    · rintro σ H1 ⟨v3, v4, rfl, k1, k2⟩
      rw [nL_len, PO.len, sizesTo_all] at k2
      exact ⟨_, rfl, h H1 q k1 hq0 k2⟩
end
end Pk
end
section
set_option Elab.async false
set_option linter.all false
set_option maxRecDepth 100000
set_option maxHeartbeats 4000000
namespace Pk
open PySem PySem.Spec PyProof.Rows L2
open Vakepa (Piece Part Prog Raw RawPart)
/-- the list of the loads: pairs in tuples -/
def LoadsAt (H : Hp) (q : Addr) (ls : List (Nat × Nat)) : Prop := ∃ as : List Addr, H q = some (.lst (as.map V.ref)) ∧ All2 (fun a (x : Nat × Nat) => H a = some (.tup [nI x.1, nI x.2])) as ls
theorem LoadsAt.same {H H' : Hp} (s : Same H H') {q : Addr} {ls : List (Nat × Nat)} (h : LoadsAt H q ls) : LoadsAt H' q ls := by
  obtain ⟨as, h1, h2⟩ := h
  exact ⟨as, s _ _ h1, h2.imp fun _ _ e => s _ _ e⟩
theorem nL_in (k : Nat) (l : List Nat) : inV (.int (k : Int)) (nL l) = l.contains k := ints_in k l
theorem nL_flat (l : List Nat) : (nL l).all flatV = true := ints_flat l
theorem nL_snoc (l : List Nat) (k : Nat) : nL (l ++ [k]) = nL l ++ [.int (k : Int)] := by
  unfold nL
  rw [List.map_append]
  rfl
theorem loadBy_in {pl there : List Nat} {k : Nat} {r : List Nat} (h : there.contains (Vakepe.packOf pl k) = true) : Vakepe.loadBy pl there (k :: r) = Vakepe.loadBy pl there r := by
  show (if there.contains (Vakepe.packOf pl k) = true then _ else _) = _
  rw [if_pos h]
theorem loadBy_out {pl there : List Nat} {k : Nat} {r : List Nat} (h : there.contains (Vakepe.packOf pl k) = false) : Vakepe.loadBy pl there (k :: r) = (k, Vakepe.packOf pl k) :: Vakepe.loadBy pl (there ++ [Vakepe.packOf pl k]) r := by
  show (if there.contains (Vakepe.packOf pl k) = true then _ else _) = _
  rw [if_neg (by rw [h]; exact Bool.false_ne_true)]
theorem packOf_at {pl : List Nat} {k n : Nat} (h : pl[k]? = some n) : Vakepe.packOf pl k = n := by
  unfold Vakepe.packOf
  rw [List.getD_eq_getElem?_getD, h]
  rfl
section
variable {P : Program} {w : World} {K : PySem.W.Frag} {mg : Str → Option Value} {base : Heap} {c : Cs}
def spLoads (K : PySem.W.Frag) : Sp := fun vs H Q _ => ∃ (e l : Addr) (es pl : List Nat), vs = [.ref e, .ref l] ∧ SqL K H e (nL es) ∧ SqL K H l (nL pl) ∧ (∀ k ∈ es, k < pl.length) ∧ es.length ≤ 1000 ∧
  ∀ (H' : Hp) (q : Addr), Same H H' → H q = none → LoadsAt H' q (Vakepe.loadBy pl [0] es) → Q (.ref q) H'
theorem scLoads : FnScope ["entered", "plan", "there", "loads", "part", "pack"] ["entered", "plan"] (defScope s_loads_of) := ⟨rfl, rfl, rfl, by decide +kernel, rfl, by decide +kernel, by decide +kernel⟩
theorem ok_loads (D : DefAt K mg "loads_of" s_loads_of) : Ok P w K mg base CX0 1 "loads_of" ["entered", "plan"] (spLoads K) := by
  refine Ok.mk' D (fun f fd F => F.ok scLoads (fun vs H Q E h => ?_) (fun cdv A outer s H vs Q E hr h => ?_)) (fun _ _ _ _ _ _ us hl => match us, hl with | [_, _], _ => rfl)
  · obtain ⟨e, l, es, pl, rfl, _⟩ := h
    rfl
  · obtain ⟨e, l, es, pl, rfl, he, hl, hlt, hle, h⟩ := h
    refine ⟨_, pss_cons (ps_set (i := 2) scLoads.nd rfl (.inl rfl) (pe_lst (pa_cons pe_int pa_nil)))
      (pss_cons (ps_set (i := 3) scLoads.nd rfl (.inl rfl) (pe_lst pa_nil))
      (pss_cons (ps_for PassesOwn.never rfl (pi_list (pv 0)) (pg_name (i := 4) scLoads.nd rfl (.inl rfl))
        (pss_cons (ps_set (i := 5) scLoads.nd rfl (.inl rfl) (pe_ix ix_list (pv 1) (pv 4) (fun _ _ => rfl)))
        (pss_one (ps_if (pt_cmpR op_notIn_seq (pv 5) (pv 2) (by rfl))
          (pss_cons (ps_expr (pe_bm PySem.F.plainAttrs_list PySem.F.slot_list_append PySem.F.type_list_append mt_append (pv 2) (pa_cons (pv 5) pa_nil)))
          (pss_one (ps_expr (pe_bm PySem.F.plainAttrs_list PySem.F.slot_list_append PySem.F.type_list_append mt_append (pv 3) (pa_cons (pe_tup (pa_cons (pv 4) (pa_cons (pv 5) pa_nil))) pa_nil))))) pss_nil))))
      (pss_one (ps_ret (pv 3))))), ?_⟩
    have hsz : sizeLine = 16777216 := sizeLine_eq
    refine ⟨by show 1 ≤ sizeLine; omega, fun t ht => ?_⟩
    refine ⟨Nat.zero_le _, fun q hq => ?_⟩
    have s1 : Same H (upd H t (.lst [.int 0])) := Same.new ht
    have hq0 : H q = none := s1.free hq
    have s2 := s1.trans (Same.new (o := .lst []) hq)
    have ntq : t ≠ q := ne_of_none upd_same hq
    refine ⟨_, rfl, e, rfl, ⟨_, s2.seq he⟩, ?_⟩
    refine for_list (Pv := fun i σ H' => ∃ (v4 v5 : Option V) (th : List Nat) (ls : List (Nat × Nat)), σ = [some (.ref e), some (.ref l), some (.ref t), some (.ref q), v4, v5] ∧ Same H H' ∧ H' t = some (.lst (nL th)) ∧ LoadsAt H' q ls ∧ th.length ≤ i + 1 ∧ ls.length ≤ i ∧
        ls ++ Vakepe.loadBy pl th (es.drop i) = Vakepe.loadBy pl [0] es)
      ⟨none, none, [0], [], rfl, s2, (upd_ne ntq).trans upd_same, ⟨[], upd_same, .nil⟩, Nat.le_refl _, Nat.le_refl _, rfl⟩ (fun i σ H' _ ⟨_, _, _, _, _, k, _⟩ => k.seq he) ?_ ?_
    · rintro i x σ H1 hx ⟨v4, v5, th, ls, rfl, k1, k2, ⟨as, k3, k4⟩, k5, k6, k7⟩
      obtain ⟨k, hk, rfl⟩ : ∃ k, es[i]? = some k ∧ x = .int (k : Int) := by
        unfold nL at hx
        rw [List.getElem?_map] at hx
        cases z : es[i]? with
        | none => rw [z] at hx; cases hx
        | some k => rw [z] at hx; exact ⟨k, rfl, (Option.some.inj hx).symm⟩
      have hil : i < es.length := (List.getElem?_eq_some_iff.mp hk).1
      have hkl := hlt k (List.mem_of_getElem? hk)
      have hpk : pl[k]? = some pl[k] := List.getElem?_eq_getElem hkl
      have e1 := packOf_at hpk
      have hd := drop_at hk
      have hal := k4.len
      rw [hd] at k7
      refine ⟨_, rfl, _, rfl, l, _, _, _, rfl, rfl, k1.seq hl, atI_nat (nL_at hpk), ?_⟩
      refine ⟨_, rfl, _, rfl, t, _, rfl, .inl (SqL.of k2), rfl, nL_flat th, _, rfl, ?_⟩
      rw [if_pos rfl, nL_in]
      cases q1 : th.contains pl[k] with
      | true =>
        refine iteF ?_
        rw [loadBy_in (by rw [e1]; exact q1)] at k7
        exact ⟨_, _, th, ls, rfl, k1, k2, ⟨as, k3, k4⟩, by omega, by omega, k7⟩
      | false =>
        refine iteT ?_
        rw [loadBy_out (by rw [e1]; exact q1), e1] at k7
        have nqt : q ≠ t := Ne.symm ntq
        refine ⟨_, rfl, .inl ⟨rfl, _, SqL.of k2⟩, _, rfl, t, _, _, rfl, rfl, k2, by rw [nL_len]; omega, ?_⟩
        refine ⟨_, rfl, .inl ⟨rfl, _, SqL.of ((upd_ne nqt).trans k3)⟩, _, rfl, _, rfl, by show 2 ≤ sizeLine; omega, fun b hb => ?_⟩
        have nbq : q ≠ b := ne_of_none ((upd_ne nqt).trans k3) hb
        have nbt : t ≠ b := ne_of_none upd_same hb
        have hb1 : H1 b = none := by
          rw [upd_ne (Ne.symm nbt)] at hb
          exact hb
        refine ⟨q, _, _, rfl, rfl, (upd_ne nbq).trans ((upd_ne nqt).trans k3), by rw [List.length_map]; omega, ?_⟩
        refine ⟨_, _, th ++ [pl[k]], ls ++ [(k, pl[k])], rfl, fun a o z => ?_, ?_, ⟨as ++ [b], ?_, ?_⟩, ?_, ?_, ?_⟩
        · rw [upd_ne (ne_of_none z hq0), upd_ne (ne_of_none (k1 _ _ z) hb1), upd_ne (ne_of_none z ht)]
          exact k1 _ _ z
        · rw [upd_ne ntq, upd_ne nbt, upd_same, nL_snoc]
        · rw [upd_same, List.map_append]
          rfl
        · refine All2.snoc ?_ (k4.imp fun a x z => ?_)
          · rw [upd_ne (Ne.symm nbq), upd_same]
            rfl
          · rw [upd_ne (ne_of z k3 (by intro z; cases z)), upd_ne (ne_of_none z hb1), upd_ne (ne_of z k2 (by intro z; cases z))]
            exact z
        · rw [List.length_append, List.length_singleton]
          omega
        · rw [List.length_append, List.length_singleton]
          omega
        · rw [List.append_assoc]
          exact k7
    · rintro σ H1 ⟨v4, v5, th, ls, rfl, k1, k2, k3, k5, k6, k7⟩
      rw [nL_len, List.drop_length] at k7
      have e1 : ls = Vakepe.loadBy pl [0] es := by
        rw [← k7]
        show ls = ls ++ []
        rw [List.append_nil]
      rw [e1] at k3
      exact ⟨_, rfl, h H1 q k1 hq0 k3⟩
end
end Pk
end
section
set_option Elab.async false
set_option linter.all false
set_option maxRecDepth 100000
set_option maxHeartbeats 4000000
namespace Pk
open PySem PySem.Spec PyProof.Rows L2
open Vakepa (Piece Part Prog Raw RawPart)
def costOf (sizes : List Nat) (w : Nat) (ls : List (Nat × Nat)) : Nat := sizes.getD 0 0 + (ls.map fun x => sizes.getD x.2 0 + w).sum
theorem costOf_snoc {sizes : List Nat} {w : Nat} {ls : List (Nat × Nat)} {x : Nat × Nat} : costOf sizes w (ls ++ [x]) = costOf sizes w ls + (sizes.getD x.2 0 + w) := by
  unfold costOf
  rw [List.map_append, List.sum_append]
  simp
  omega
theorem runCost_is (sizes : List Nat) (w : Nat) (pl : List Nat) (o : Vakepe.Order) : Vakepe.runCost sizes w pl o = costOf sizes w (Vakepe.loadsOf pl o) := rfl
section
variable {P : Program} {w : World} {K : PySem.W.Frag} {mg : Str → Option Value} {base : Heap} {c : Cs}
def spCost (K : PySem.W.Frag) : Sp := fun vs H Q _ => ∃ (s q : Addr) (sizes : List Nat) (ls : List (Nat × Nat)) (m : Nat), vs = [.ref s, .ref q, .int (m : Int)] ∧ SqL K H s (nL sizes) ∧ LoadsAt H q ls ∧ 1 ≤ sizes.length ∧ (∀ x ∈ ls, x.2 < sizes.length) ∧ Q (.int (costOf sizes m ls : Int)) H
theorem scCost : FnScope ["sizes", "loads", "more", "cost", "load"] ["sizes", "loads", "more"] (defScope s_run_cost) := ⟨rfl, rfl, rfl, by decide +kernel, rfl, by decide +kernel, by decide +kernel⟩
theorem ok_cost (D : DefAt K mg "run_cost" s_run_cost) : Ok P w K mg base CX0 1 "run_cost" ["sizes", "loads", "more"] (spCost K) := by
  refine Ok.mk' D (fun f fd F => F.ok scCost (fun vs H Q E h => ?_) (fun cdv A outer s0 H vs Q E hr h => ?_)) (fun _ _ _ _ _ _ us hl => match us, hl with | [_, _, _], _ => rfl)
  · obtain ⟨s, q, sizes, ls, m, rfl, _⟩ := h
    rfl
  · obtain ⟨s, q, sizes, ls, m, rfl, hs, ⟨as, k1, k2⟩, h1, h2, h⟩ := h
    refine ⟨_, pss_cons (ps_set (i := 3) scCost.nd rfl (.inl rfl) (pe_ix ix_list (pv 0) pe_int (fun _ _ => rfl)))
      (pss_cons (ps_for PassesOwn.never rfl (pi_list (pv 1)) (pg_name (i := 4) scCost.nd rfl (.inl rfl))
        (pss_one (ps_aug (i := 3) scCost.nd rfl (.inl rfl) (pe_add (pe_ix ix_list (pv 0) (pe_ix ix_tup (pv 4) pe_int (fun _ _ => rfl)) (fun _ _ => rfl)) (pv 2)) ip_add)))
      (pss_one (ps_ret (pv 3)))), ?_⟩
    have z0 : sizes[0]? = some (sizes.getD 0 0) := by
      rw [List.getD_eq_getElem?_getD, List.getElem?_eq_getElem (by omega)]
      rfl
    refine ⟨_, rfl, s, _, _, _, rfl, rfl, hs, atI_nat (j := 0) (nL_at z0), ?_⟩
    refine ⟨_, rfl, q, rfl, ⟨_, SqL.of k1⟩, ?_⟩
    refine for_list (Pv := fun i σ H' => ∃ v4 : Option V, σ = [some (.ref s), some (.ref q), some (.int (m : Int)), some (.int (costOf sizes m (ls.take i) : Int)), v4] ∧ H' = H)
      ⟨none, rfl, rfl⟩ (fun i σ H' _ ⟨_, _, e⟩ => by rw [e]; exact SqL.of k1) ?_ ?_
    · rintro i x σ H1 hx ⟨v4, rfl, rfl⟩
      obtain ⟨a, ha, rfl⟩ : ∃ a, as[i]? = some a ∧ x = .ref a := by
        rw [List.getElem?_map] at hx
        cases z : as[i]? with
        | none => rw [z] at hx; cases hx
        | some k => rw [z] at hx; exact ⟨k, rfl, (Option.some.inj hx).symm⟩
      obtain ⟨y, hy, hT⟩ := k2.get' ha
      have hy2 := h2 y (List.mem_of_getElem? hy)
      have zy : sizes[y.2]? = some (sizes.getD y.2 0) := by
        rw [List.getD_eq_getElem?_getD, List.getElem?_eq_getElem hy2]
        rfl
      refine ⟨_, rfl, _, rfl, _, rfl, a, _, _, _, rfl, rfl, SqT.of hT, atI_nat (j := 1) rfl, s, _, _, _, rfl, rfl, hs, atI_nat (nL_at zy), ?_⟩
      refine ⟨_, rfl, _, _, rfl, rfl, _, _, rfl, rfl, some (.ref a), ?_, rfl⟩
      rw [take_snocG hy, costOf_snoc]
      dsimp only
      have e : ((costOf sizes m (ls.take i) : Int) + ((sizes.getD y.2 0 : Int) + (m : Int))) = ((costOf sizes m (ls.take i) + (sizes.getD y.2 0 + m) : Nat) : Int) := by omega
      rw [e]
      rfl
    · rintro σ H1 ⟨v4, rfl, rfl⟩
      rw [List.length_map, k2.len, List.take_length]
      exact ⟨_, rfl, h⟩
end
end Pk
end
section
set_option Elab.async false
set_option linter.all false
set_option maxHeartbeats 4000000
namespace Pk
open Vakepa (Part Prog)
theorem take_one {α : Type} {l : List α} {i : Nat} {x : α} (h : l[i]? = some x) : l.take (i + 1) = l.take i ++ [x] := by
  rw [List.take_add_one, h]
  rfl
/-! ### the parts that are reached, in the order in which they are met -/
def mstep (met es : List Nat) : List Nat := met ++ es.filter fun k => !met.contains k
def metOf (rs : List (List Nat)) : List Nat := rs.foldl mstep []
theorem mstep_mem {met es : List Nat} {k : Nat} : k ∈ mstep met es ↔ k ∈ met ∨ k ∈ es := by
  unfold mstep
  rw [List.mem_append, List.mem_filter]
  constructor
  · rintro (h | h)
    · exact .inl h
    · exact .inr h.1
  · rintro (h | h)
    · exact .inl h
    · by_cases q : k ∈ met
      · exact .inl q
      · exact .inr ⟨h, by simpa using q⟩
theorem mstep_nodup {met es : List Nat} (h : met.Nodup) (h2 : es.Nodup) : (mstep met es).Nodup := by
  unfold mstep
  rw [List.nodup_append]
  refine ⟨h, h2.filter _, fun a ha b hb => ?_⟩
  have := (List.mem_filter.mp hb).2
  intro e
  subst e
  simp [ha] at this
theorem met_mem0 {k : Nat} : ∀ {rs : List (List Nat)} {met : List Nat}, k ∈ rs.foldl mstep met ↔ k ∈ met ∨ ∃ es ∈ rs, k ∈ es
  | [], met => by simp
  | a :: r, met => by
    rw [List.foldl_cons, met_mem0, mstep_mem]
    simp [or_assoc]
theorem met_mem {rs : List (List Nat)} {k : Nat} : k ∈ metOf rs ↔ ∃ es ∈ rs, k ∈ es := by
  unfold metOf
  rw [met_mem0]
  simp
theorem met_nodup0 : ∀ {rs : List (List Nat)} {met : List Nat}, met.Nodup → (∀ es ∈ rs, es.Nodup) → (rs.foldl mstep met).Nodup
  | [], met, h, _ => h
  | a :: r, met, h, h2 => by
    rw [List.foldl_cons]
    exact met_nodup0 (mstep_nodup h (h2 a (List.mem_cons_self ..))) fun es he => h2 es (List.mem_cons_of_mem _ he)
theorem met_nodup {rs : List (List Nat)} (h : ∀ es ∈ rs, es.Nodup) : (metOf rs).Nodup := met_nodup0 List.nodup_nil h
theorem met_take {rs : List (List Nat)} {i : Nat} {es : List Nat} (h : rs[i]? = some es) : metOf (rs.take (i + 1)) = mstep (metOf (rs.take i)) es := by
  unfold metOf
  rw [take_one h, List.foldl_append]
  rfl
/-! ### what is entered ahead of a part -/
def leadOf (k : Nat) (es : List Nat) : List Nat := es.takeWhile fun x => x != k
def leadsOf (k : Nat) (rs : List (List Nat)) : List (List Nat) := (rs.filter fun es => es.contains k).map (leadOf k)
theorem lead_take {k : Nat} : ∀ {es : List Nat} {j : Nat}, es[j]? = some k → (∀ m x, m < j → es[m]? = some x → x ≠ k) → es.take j = leadOf k es
  | [], j, h, _ => by simp at h
  | a :: r, 0, h, _ => by
    have e : a = k := Option.some.inj h
    subst e
    unfold leadOf
    rw [List.takeWhile_cons]
    simp
  | a :: r, j + 1, h, h1 => by
    have h : r[j]? = some k := h
    have ha : a ≠ k := h1 0 a (Nat.succ_pos _) rfl
    unfold leadOf
    rw [List.take_succ_cons, List.takeWhile_cons, if_pos (by simpa using ha)]
    congr 1
    exact lead_take h fun m x hm hx => h1 (m + 1) x (by omega) hx
theorem lead_sub {k : Nat} {es : List Nat} {x : Nat} (h : x ∈ leadOf k es) : x ∈ es ∧ x ≠ k := by
  unfold leadOf at h
  refine ⟨(List.takeWhile_sublist _).subset h, ?_⟩
  have := List.all_takeWhile (p := fun x => x != k) (l := es)
  have := List.all_eq_true.mp this x h
  simpa using this
theorem lead_nodup {k : Nat} {es : List Nat} (h : es.Nodup) : (leadOf k es).Nodup := h.sublist (List.takeWhile_sublist _)
def secOf (n : Nat) (ls : List (List Nat)) : List Nat := (List.range n).filter fun j => !ls.isEmpty && ls.all fun es => es.contains j
def runsOf (p : Prog) : List (List Nat) := (Vakepe.orders p).map fun o => o.l
theorem before_is (p : Prog) (k : Nat) : Vakepe.beforeOf p k = ((leadsOf k (runsOf p)).length, secOf p.parts.length (leadsOf k (runsOf p))) := by
  have e : leadsOf k (runsOf p) = ((Vakepe.orders p).filter fun o => o.l.contains k).map fun o => leadOf k o.l := by
    unfold leadsOf runsOf
    rw [List.filter_map, List.map_map]
    rfl
  unfold Vakepe.beforeOf
  rw [e]
  generalize (Vakepe.orders p).filter (fun o => o.l.contains k) = os
  refine Prod.ext (by rw [List.length_map]) ?_
  show (List.range p.parts.length).filter _ = (List.range p.parts.length).filter _
  refine List.filter_congr fun j _ => ?_
  cases os with
  | nil => simp
  | cons o r =>
    rw [Bool.eq_iff_iff]
    simp only [Bool.and_eq_true, List.all_eq_true, List.map_cons, List.mem_cons, bne_iff_ne]
    constructor
    · rintro ⟨⟨_, _⟩, h⟩
      refine ⟨rfl, fun es he => ?_⟩
      rcases he with rfl | he
      · exact h o (.inl rfl)
      · obtain ⟨q, hq, rfl⟩ := List.mem_map.mp he
        exact h q (.inr hq)
    · rintro ⟨_, h⟩
      refine ⟨⟨?_, rfl⟩, fun q hq => ?_⟩
      · have := h _ (.inl rfl)
        exact (lead_sub (List.contains_iff_mem.mp this)).2
      · rcases hq with rfl | hq
        · exact h _ (.inl rfl)
        · exact h _ (.inr (List.mem_map.mpr ⟨q, hq, rfl⟩))
/-- what is left of the first lead, lead by lead -/
def sharedTo (l0 : List Nat) (ls : List (List Nat)) (i : Nat) : List Nat := l0.filter fun j => (ls.take i).all fun es => es.contains j
theorem sharedTo_zero (l0 : List Nat) (ls : List (List Nat)) : sharedTo l0 ls 0 = l0 := by
  unfold sharedTo
  simp
theorem sharedTo_succ {l0 : List Nat} {ls : List (List Nat)} {i : Nat} {es : List Nat} (h : ls[i]? = some es) : sharedTo l0 ls (i + 1) = (sharedTo l0 ls i).filter fun j => es.contains j := by
  unfold sharedTo
  rw [take_one h, List.filter_filter]
  refine List.filter_congr fun j _ => ?_
  rw [List.all_append, Bool.and_comm]
  simp
/-- sorted ints of a list with nothing twice -/
theorem range_ints (n : Nat) (f : Nat → Bool) : (((List.range n).filter f).map fun (k : Nat) => (k : Int)).Pairwise (· ≤ ·) := by
  rw [List.pairwise_map]
  have : (List.range n).Pairwise (· < ·) := List.pairwise_lt_range
  exact (this.filter f).imp fun h => by omega
theorem sec_sorted {n : Nat} {l0 : List Nat} {ls : List (List Nat)} (h0 : ls[0]? = some l0) (hn : l0.Nodup) (hl : ∀ x ∈ l0, x < n) {ns : List Int} (hp : ns.Perm ((sharedTo l0 ls ls.length).map fun (k : Nat) => (k : Int))) (hs : ns.Pairwise (· ≤ ·)) : ns = (secOf n ls).map fun (k : Nat) => (k : Int) := by
  refine List.Perm.eq_of_pairwise (fun _ _ _ _ a b => Int.le_antisymm a b) hs (range_ints n _) (hp.trans (List.Perm.map _ ?_))
  unfold sharedTo secOf
  refine (List.perm_ext_iff_of_nodup (hn.filter _) (List.nodup_range.filter _)).mpr fun k => ?_
  rw [List.mem_filter, List.mem_filter, List.mem_range, List.take_length]
  cases ls with
  | nil => simp at h0
  | cons a r =>
    have e : a = l0 := Option.some.inj h0
    subst e
    simp only [List.isEmpty_cons, Bool.not_false, Bool.true_and]
    refine ⟨fun h => ⟨hl k h.1, h.2⟩, fun h => ⟨?_, h.2⟩⟩
    have := h.2
    rw [List.all_cons, Bool.and_eq_true] at this
    exact List.contains_iff_mem.mp this.1
theorem sec_nil (n : Nat) : secOf n [] = [] := by
  unfold secOf
  simp
/-! ### plans, part by part -/
def choices (need : List Nat) (k : Nat) : List Nat := if need.contains k = true then [0, 1, 2] else [3]
def plansTo (need : List Nat) : Nat → List (List Nat)
  | 0 => [[]]
  | i + 1 => (plansTo need i).flatMap fun l => (choices need i).map fun x => l ++ [x]
theorem plansBy_eq (need : List Nat) (n k : Nat) : Vakepe.plansBy need (n + 1) k = (choices need k).flatMap fun x => (Vakepe.plansBy need n (k + 1)).map fun r => x :: r := rfl
theorem plansBy_snoc (need : List Nat) : ∀ n k, Vakepe.plansBy need (n + 1) k = (Vakepe.plansBy need n k).flatMap fun l => (choices need (k + n)).map fun x => l ++ [x]
  | 0, k => by
    show ((choices need k).flatMap fun x => [[x]]) = [[]].flatMap fun l => (choices need (k + 0)).map fun x => l ++ [x]
    rw [List.flatMap_cons, List.flatMap_nil, List.append_nil, Nat.add_zero]
    generalize choices need k = cs
    induction cs with
    | nil => rfl
    | cons a r ih => rw [List.flatMap_cons, List.map_cons, ih]; rfl
  | n + 1, k => by
    rw [plansBy_eq need (n + 1) k, plansBy_eq need n k, List.flatMap_assoc]
    congr 1
    funext x
    rw [plansBy_snoc need n (k + 1), List.map_flatMap, List.flatMap_map]
    congr 1
    funext l
    rw [List.map_map, show k + 1 + n = k + (n + 1) by omega]
    rfl
theorem plansTo_is (need : List Nat) : ∀ n, plansTo need n = Vakepe.plansBy need n 0
  | 0 => rfl
  | n + 1 => by
    rw [plansBy_snoc, ← plansTo_is need n, Nat.zero_add]
    rfl
theorem plansTo_congr {need need' : List Nat} (h : ∀ k, need.contains k = need'.contains k) : ∀ n, plansTo need n = plansTo need' n
  | 0 => rfl
  | n + 1 => by
    have e : choices need n = choices need' n := by
      unfold choices
      rw [h n]
    show (plansTo need n).flatMap _ = (plansTo need' n).flatMap _
    rw [plansTo_congr h n, e]
theorem flat_le {α β : Type} {f : α → List β} {m : Nat} (h : ∀ a, (f a).length ≤ m) : ∀ l : List α, (l.flatMap f).length ≤ l.length * m
  | [] => by simp
  | a :: r => by
    rw [List.flatMap_cons, List.length_append, List.length_cons, Nat.succ_mul]
    have := h a
    have := flat_le h r
    omega
theorem plansTo_len (need : List Nat) : ∀ n, (plansTo need n).length ≤ 3 ^ n
  | 0 => Nat.le_refl _
  | n + 1 => by
    have h : ∀ l : List Nat, ((choices need n).map fun x => l ++ [x]).length ≤ 3 := fun l => by
      rw [List.length_map]
      unfold choices
      split <;> decide
    have h2 := flat_le h (plansTo need n)
    have h3 := plansTo_len need n
    show ((plansTo need n).flatMap _).length ≤ _
    rw [Nat.pow_succ]
    exact Nat.le_trans h2 (Nat.mul_le_mul_right 3 h3)
/-- the best: the first of the cheapest -/
def bstep (f : List Nat → Nat) (b : Option (Nat × List Nat)) (l : List Nat) : Option (Nat × List Nat) := match b with
  | none => some (f l, l)
  | some x => if f l < x.1 then some (f l, l) else some x
theorem bkeep {f : List Nat → Nat} {x : Nat × List Nat} : ∀ {ls : List (List Nat)}, (∀ l ∈ ls, x.1 ≤ f l) → ls.foldl (bstep f) (some x) = some x
  | [], _ => rfl
  | a :: r, h => by
    rw [List.foldl_cons]
    have e : bstep f (some x) a = some x := by
      show (if f a < x.1 then some (f a, a) else some x) = _
      rw [if_neg (by have := h a (List.mem_cons_self ..); omega)]
    rw [e]
    exact bkeep fun o ho => h o (List.mem_cons_of_mem _ ho)
theorem bfirst {f : List Nat → Nat} {M : Nat} {l : List Nat} (ho : f l = M) : ∀ {ls : List (List Nat)} {j : Nat} {b : Option (Nat × List Nat)}, ls[j]? = some l → (∀ x ∈ ls, M ≤ f x) → (∀ (m : Nat) (x : List Nat), m < j → ls[m]? = some x → f x ≠ M) →
    (∀ x, b = some x → M < x.1) → ls.foldl (bstep f) b = some (M, l)
  | [], j, b, h, _, _, _ => by simp at h
  | a :: r, 0, b, h, h1, _, hb => by
    have e : a = l := Option.some.inj h
    subst e
    rw [List.foldl_cons]
    have e : bstep f b a = some (M, a) := by
      cases b with
      | none =>
        show some (f a, a) = _
        rw [ho]
      | some x =>
        show (if f a < x.1 then some (f a, a) else some x) = _
        rw [if_pos (by rw [ho]; exact hb x rfl), ho]
    rw [e]
    exact bkeep fun x hx => h1 x (List.mem_cons_of_mem _ hx)
  | a :: r, j + 1, b, h, h1, h2, hb => by
    have h : r[j]? = some l := h
    have ha : M < f a := by
      have := h1 a (List.mem_cons_self ..)
      have := h2 0 a (Nat.succ_pos _) rfl
      omega
    rw [List.foldl_cons]
    refine bfirst ho h (fun x hx => h1 x (List.mem_cons_of_mem _ hx)) (fun m x hm hx => h2 (m + 1) x (Nat.succ_lt_succ hm) hx) fun x hx => ?_
    cases b with
    | none =>
      have hx : some (f a, a) = some x := hx
      rw [← Option.some.inj hx]
      exact ha
    | some y =>
      have hx : (if f a < y.1 then some (f a, a) else some y) = some x := hx
      by_cases q : f a < y.1
      · rw [if_pos q] at hx
        rw [← Option.some.inj hx]
        exact ha
      · rw [if_neg q] at hx
        rw [← Option.some.inj hx]
        exact hb y rfl
end Pk
end
section
set_option Elab.async false
set_option linter.all false
set_option maxRecDepth 100000
set_option maxHeartbeats 4000000
namespace Pk
open PySem PySem.Spec PyProof.Rows L2
open Vakepa (Piece Part Prog Raw RawPart)
theorem packOf_lt {p : Prog} {pl : List Nat} (O : PlanOk p pl) {k : Nat} (h : k < p.parts.length) : Vakepe.packOf pl k < 4 := by
  have hk : k < pl.length := by rw [O.len]; exact h
  rw [packOf_at (List.getElem?_eq_getElem hk)]
  exact O.lt _ (List.getElem_mem hk)
theorem loadBy_lt {p : Prog} {pl : List Nat} (O : PlanOk p pl) : ∀ (th es : List Nat), (∀ k ∈ es, k < p.parts.length) → ∀ x ∈ Vakepe.loadBy pl th es, x.2 < 4
  | _, [], _, x, hx => by cases hx
  | th, k :: r, h, x, hx => by
    have hr : ∀ k ∈ r, k < p.parts.length := fun j hj => h j (List.mem_cons_of_mem _ hj)
    cases q : th.contains (Vakepe.packOf pl k) with
    | true =>
      rw [loadBy_in q] at hx
      exact loadBy_lt O th r hr x hx
    | false =>
      rw [loadBy_out q] at hx
      rcases List.mem_cons.mp hx with z | z
      · rw [z]
        exact packOf_lt O (h k (List.mem_cons_self ..))
      · exact loadBy_lt O _ r hr x z
/-! ### all runs, entry by entry -/
def ordersE (p : Prog) (e : Nat) : List Vakepe.Order := (List.range (Vakepa.total p)).map fun a => ⟨e, a, (Vakepa.run p [] e (Vakepa.valuesOf p a)).entered⟩
theorem orders_is (p : Prog) : Vakepe.orders p = p.starts.flatMap (ordersE p) := rfl
def ordersTo (p : Prog) (i : Nat) : List Vakepe.Order := (p.starts.take i).flatMap (ordersE p)
theorem ordersTo_all (p : Prog) : ordersTo p p.starts.length = Vakepe.orders p := by
  unfold ordersTo
  rw [List.take_length, orders_is]
theorem ordersTo_succ {p : Prog} {i k : Nat} (h : p.starts[i]? = some k) : ordersTo p (i + 1) = ordersTo p i ++ ordersE p k := by
  unfold ordersTo
  rw [take_snocG h, List.flatMap_append]
  simp
theorem ordersE_len (p : Prog) (e : Nat) : (ordersE p e).length = Vakepa.total p := by
  unfold ordersE
  rw [List.length_map, List.length_range]
theorem ordersE_take (p : Prog) (e j : Nat) (h : j < Vakepa.total p) : (ordersE p e).take (j + 1) = (ordersE p e).take j ++ [⟨e, j, (Vakepa.run p [] e (Vakepa.valuesOf p j)).entered⟩] := by
  refine take_snocG ?_
  unfold ordersE
  rw [List.getElem?_map, List.getElem?_range h]
  rfl
theorem ordersTo_len {p : Prog} (W : WF p) : ∀ i, (ordersTo p i).length ≤ 64 * 4 := by
  intro i
  have h1 : ∀ (l : List Nat), (l.flatMap (ordersE p)).length = l.length * Vakepa.total p := by
    intro l
    induction l with
    | nil => simp
    | cons a r ih =>
      rw [List.flatMap_cons, List.length_append, ih, ordersE_len, List.length_cons, Nat.succ_mul, Nat.add_comm]
  unfold ordersTo
  rw [h1]
  have h2 := (total_le W).2
  have h3 := W.e4
  have h4 : (p.starts.take i).length ≤ 4 := by rw [List.length_take]; omega
  calc (p.starts.take i).length * Vakepa.total p ≤ 4 * 64 := Nat.mul_le_mul h4 h2
    _ ≤ 64 * 4 := by decide
/-! ### a list of lists of numbers -/
def LLAt (H : Hp) (q : Addr) (rs : List (List Nat)) : Prop := ∃ as : List Addr, (∀ a ∈ as, a ≠ q) ∧ H q = some (.lst (as.map V.ref)) ∧ All2 (fun a (r : List Nat) => H a = some (.lst (nL r))) as rs
theorem LLAt.same {H H' : Hp} (s : Same H H') {q : Addr} {rs : List (List Nat)} (h : LLAt H q rs) : LLAt H' q rs := by
  obtain ⟨as, h0, h1, h2⟩ := h
  exact ⟨as, h0, s _ _ h1, h2.imp fun _ _ e => s _ _ e⟩
theorem LLAt.nil {H : Hp} {q : Addr} (h : H q = some (.lst [])) : LLAt H q [] := ⟨[], fun _ z => (by cases z), h, .nil⟩
/-- one more at the end -/
theorem LLAt.push {H : Hp} {q le : Addr} {rs : List (List Nat)} {es : List Nat} (h : LLAt H q rs) (hl : H le = some (.lst (nL es))) (n : le ≠ q) : ∃ xs : List V, H q = some (.lst xs) ∧ xs.length = rs.length ∧ LLAt (upd H q (.lst (xs ++ [.ref le]))) q (rs ++ [es]) := by
  obtain ⟨as, h0, h1, h2⟩ := h
  refine ⟨_, h1, by rw [List.length_map, h2.len], as ++ [le], fun a ha => ?_, ?_, All2.snoc ?_ (h2.impm fun a x ha z => ?_)⟩
  · rcases List.mem_append.mp ha with z | z
    · exact h0 a z
    · rw [List.mem_singleton.mp z]
      exact n
  · rw [upd_same, List.map_append]
    rfl
  · exact (upd_ne n).trans hl
  · exact (upd_ne (h0 a ha)).trans z
/-- what a run enters -/
structure LsOk (n : Nat) (es : List Nat) : Prop where
  lt : ∀ x ∈ es, x < n
  nd : es.Nodup
theorem runsOf_is (p : Prog) : runsOf p = (Vakepe.orders p).map fun o => o.l := rfl
section
variable {P : Program} {w : World} {K : PySem.W.Frag} {mg : Str → Option Value} {base : Heap} {c : Cs}
/-! ### all_costs -/
def costsOf (p : Prog) (pl : List Nat) (m : Nat) (rs : List (List Nat)) : List Nat := rs.map fun es => costOf (Vakepe.sizesOf p pl) m (Vakepe.loadBy pl [0] es)
def spAllCosts (K : PySem.W.Frag) (c : Cs) : Sp := fun vs H Q _ => ∃ (g l r : Addr) (a : PA) (p : Prog) (kvs : List (Key × V)) (os : List Addr) (pl : List Nat) (rs : List (List Nat)) (m : Nat), vs = [.ref g, .ref l, .ref r, .int (m : Int)] ∧ ProgAt c H g a p kvs os ∧ WF p ∧ SqL K H l (nL pl) ∧ PlanOk p pl ∧
  LLAt H r rs ∧ (∀ es ∈ rs, LsOk p.parts.length es) ∧ rs.length ≤ 1000 ∧
  ∀ (H' : Hp) (q : Addr), Same H H' → H q = none → H' q = some (.lst (nL (costsOf p pl m rs))) → Q (.ref q) H'
theorem scAllCosts : FnScope ["program", "plan", "all_runs", "more", "sizes", "entered"] ["program", "plan", "all_runs", "more"] (defScope s_all_costs) := ⟨rfl, rfl, rfl, by decide +kernel, rfl, by decide +kernel, by decide +kernel⟩
theorem ok_allCosts (T : CsT K c) (D : DefAt K mg "all_costs" s_all_costs) (A1 : Ok P w K mg base CX0 1 "pack_sizes" ["program", "plan"] (spSizes K c)) (A4 : Ok P w K mg base CX0 1 "loads_of" ["entered", "plan"] (spLoads K)) (A5 : Ok P w K mg base CX0 1 "run_cost" ["sizes", "loads", "more"] (spCost K)) :
    Ok P w K mg base CX0 2 "all_costs" ["program", "plan", "all_runs", "more"] (spAllCosts K c) := by
  refine Ok.mk' D (fun f fd F => (F.ok scAllCosts (fun vs H Q E h => ?_) (fun cdv A outer s0 H vs Q E hr h => ?_) : FnOk P w K mg base CX0 (1 + 1) f fd _ _)) (fun _ _ _ _ _ _ us hl => match us, hl with | [_, _, _, _], _ => rfl)
  · obtain ⟨g, l, r, a, p, kvs, os, pl, rs, m, rfl, _⟩ := h
    rfl
  · obtain ⟨g, l, r, a, p, kvs, os, pl, rs, m, rfl, PAt, W, hpl, PO, hrs, hes, hrl, h⟩ := h
    refine ⟨_, pss_cons (ps_set (i := 4) scAllCosts.nd rfl (.inr rfl) (cl A1 hr pass0 (pa_cons (pv 0) (pa_cons (pv 1) pa_nil))))
      (pss_one (ps_ret (pe_lc (own := [("entered", 5)]) (g := gName 5) (tt := tYes) rfl scAllCosts.nd (pi_list (pv 2)) (blkOk_by (N := ["program", "plan", "all_runs", "more", "sizes", "entered"]) (sc := defScope s_all_costs) (by decide +kernel))
        (fun _ _ _ _ _ => pg_name (i := 5) scAllCosts.nd rfl (Or.inl rfl)) (fun _ _ _ _ _ => pts_nil)
        (fun _ _ _ _ _ => cl A5 hr pass0 (pa_cons (pv 4) (pa_cons (cl A4 hr pass0 (pa_cons (pv 5) (pa_cons (pv 1) pa_nil))) (pa_cons (pv 3) pa_nil))))))), ?_⟩
    have hsz : sizeLine = 16777216 := sizeLine_eq
    have hp10 := W.p10
    have szl : (Vakepe.sizesOf p pl).length = 4 := sizesTo_len p pl p.parts.length
    refine ⟨_, rfl, _, rfl, g, l, a, p, kvs, os, pl, rfl, PAt, W, hpl, PO, fun H1 sz S1 hsz0 hsz1 => ?_⟩
    obtain ⟨as, h0, k1, k2⟩ := id (hrs.same S1)
    refine ⟨_, rfl, r, rfl, ⟨_, SqL.of k1⟩, fun D hD => ?_⟩
    have hD0 : H D = none := S1.free hD
    refine lc_list (K := K) (a := r) (xs := as.map V.ref) (fun i H2 => Same H1 H2 ∧ H2 D = some (.lst (nL (costsOf p pl m (rs.take i)))))
      ⟨Same.new hD, upd_same⟩ (fun i H2 _ z => SqL.of (z.1 _ _ k1)) ?_ ?_
    · rintro i x H2 hx ⟨s3, hD2⟩
      obtain ⟨b, hb, rfl⟩ : ∃ b, as[i]? = some b ∧ x = .ref b := by
        rw [List.getElem?_map] at hx
        cases z : as[i]? with
        | none => rw [z] at hx; cases hx
        | some k => rw [z] at hx; exact ⟨k, rfl, (Option.some.inj hx).symm⟩
      obtain ⟨es, hes1, hT⟩ := k2.get' hb
      have EO := hes es (List.mem_of_getElem? hes1)
      have hlt := EO.lt
      refine ⟨rfl, ?_⟩
      dsimp only [tYes]
      rw [if_pos rfl]
      refine ⟨_, rfl, _, rfl, _, rfl, b, l, es, pl, rfl, SqL.of (s3 _ _ hT), (S1.trans s3).seq hpl, fun x hx => by rw [PO.len]; exact hlt x hx, ?_, fun H3 ql s4 hql0 hql => ?_⟩
      · have := nodup_bound p.parts.length _ EO.nd hlt
        omega
      refine ⟨_, rfl, sz, ql, _, _, m, rfl, SqL.of (s4 _ _ (s3 _ _ hsz1)), hql, by rw [szl]; decide, fun x hx => by rw [szl]; exact loadBy_lt PO _ _ hlt x hx, ?_⟩
      refine ⟨_, s4 _ _ hD2, ?_, fun b o z => ?_, ?_⟩
      · rw [nL_len]
        show (List.map _ _).length < sizeLine
        rw [List.length_map, List.length_take]
        omega
      · rw [upd_ne (ne_of_none z hD)]
        exact s4 _ _ (s3 _ _ z)
      · rw [upd_same, take_snocG hes1]
        unfold costsOf
        rw [List.map_append, List.map_cons, List.map_nil, nL_snoc]
    · rintro H2 ⟨s3, hD2⟩
      rw [List.length_map, k2.len, List.take_length] at hD2
      exact h H2 D (S1.trans s3) hD0 hD2
/-! ### all_entered -/
def spAllEnt (c : Cs) : Sp := fun vs H Q _ => ∃ (g : Addr) (a : PA) (p : Prog) (kvs : List (Key × V)) (os : List Addr), vs = [.ref g] ∧ ProgAt c H g a p kvs os ∧ WF p ∧
  ∀ (H' : Hp) (q : Addr), Same H H' → H q = none → LLAt H' q (runsOf p) → (∀ es ∈ runsOf p, LsOk p.parts.length es) → Q (.ref q) H'
theorem scAllEnt : FnScope ["program", "found", "entry", "assignment"] ["program"] (defScope s_all_entered) := ⟨rfl, rfl, rfl, by decide +kernel, rfl, by decide +kernel, by decide +kernel⟩
theorem ok_allEnt (T : CsT K c) (hl : mg "len" = none) (hrg : mg "range" = none) (D : DefAt K mg "all_entered" s_all_entered) (A2 : Ok P w K mg base CX0 1 "assignment_count" ["program"] (spCount c))
    (A3 : Ok P w K mg base CX0 84 "run_through" ["program", "entry", "assignment"] (spThrough c)) : Ok P w K mg base CX0 85 "all_entered" ["program"] (spAllEnt c) := by
  refine Ok.mk' D (fun f fd F => (F.ok scAllEnt (fun vs H Q E h => ?_) (fun cdv A outer s0 H vs Q E hr h => ?_) : FnOk P w K mg base CX0 (84 + 1) f fd _ _)) (fun _ _ _ _ _ _ us hl => match us, hl with | [_], _ => rfl)
  · obtain ⟨g, a, p, kvs, os, rfl, _⟩ := h
    rfl
  · obtain ⟨g, a, p, kvs, os, rfl, PAt, W, h⟩ := h
    have hr1 : Room 1 _ := hr.mono (by decide)
    refine ⟨_, pss_cons (ps_set (i := 1) scAllEnt.nd rfl (.inl rfl) (pe_lst pa_nil))
      (pss_cons (ps_for PassesOwn.never rfl (pi_range1 (by rfl) hrg (pa_cons (pe_callB call_len_seq (by rfl) hl PySem.boot_len (pa_cons (pe_fld (pv 0) rfl) pa_nil)) pa_nil)) (pg_name (i := 2) scAllEnt.nd rfl (.inl rfl))
        (pss_one (ps_for PassesOwn.never rfl (pi_range1 (by rfl) hrg (pa_cons (cl A2 hr1 pass0 (pa_cons (pv 0) pa_nil)) pa_nil)) (pg_name (i := 3) scAllEnt.nd rfl (.inl rfl))
          (pss_one (ps_expr (pe_bm PySem.F.plainAttrs_list PySem.F.slot_list_append PySem.F.type_list_append mt_append (pv 1) (pa_cons (pe_fld (cl A3 hr pass0 (pa_cons (pv 0) (pa_cons (pv 2) (pa_cons (pv 3) pa_nil)))) rfl) pa_nil)))))))
      (pss_one (ps_ret (pv 1)))), ?_⟩
    obtain ⟨gx, hg⟩ := PAt.obj
    have hsz : sizeLine = 16777216 := sizeLine_eq
    obtain ⟨ht1, ht2⟩ := total_le W
    refine ⟨Nat.zero_le _, fun q hq => ?_⟩
    have S2 := Same.new (o := .lst []) hq
    refine ⟨_, rfl, g, c.prog, gx, _, _, rfl, S2 _ _ hg, T.prog.cl, T.prog.no _ (by decide), progF_e, _, _, rfl, .inl (SqL.of (S2 _ _ PAt.le)), _, rfl, by omega, by have := W.e4; rw [List.length_map]; omega, ?_⟩
    have ecnt : ((List.map (fun (k : Nat) => V.int (k : Int)) p.starts).length : Int).toNat = p.starts.length := by rw [Int.toNat_natCast, List.length_map]
    rw [ecnt]
    let ls : List Vakepe.Order → List (List Nat) := List.map fun o => o.l
    refine for_range (Pv := fun i σ H' => ∃ v2 v3 : Option V, σ = [some (.ref g), some (.ref q), v2, v3] ∧ Same H H' ∧ LLAt H' q (ls (ordersTo p i)) ∧ ∀ es ∈ ls (ordersTo p i), LsOk p.parts.length es)
      ⟨none, none, rfl, S2, .nil upd_same, fun _ z => (by cases z)⟩ ?_ ?_
    · rintro i σ Hi hi ⟨v2, v3, rfl, k1, k2, k3⟩
      obtain ⟨k, hk⟩ : ∃ k, p.starts[i]? = some k := ⟨_, List.getElem?_eq_getElem hi⟩
      have hkp := W.est k (List.mem_of_getElem? hk)
      have ol := ordersTo_len W i
      refine ⟨_, rfl, g, a, p, kvs, os, rfl, PAt.same k1, W, _, rfl, by omega, by omega, ?_⟩
      have ecnt2 : ((Vakepa.total p : Nat) : Int).toNat = Vakepa.total p := Int.toNat_natCast _
      rw [ecnt2]
      refine for_range (Pv := fun j σ H' => ∃ v3 : Option V, σ = [some (.ref g), some (.ref q), some (.int (i : Int)), v3] ∧ Same H H' ∧ LLAt H' q (ls (ordersTo p i ++ (ordersE p k).take j)) ∧ ∀ es ∈ ls (ordersTo p i ++ (ordersE p k).take j), LsOk p.parts.length es)
        ⟨v3, ?_, k1, ?_, ?_⟩ ?_ ?_
      · rw [Int.zero_add]
        rfl
      · rw [List.take_zero, List.append_nil]
        exact k2
      · rw [List.take_zero, List.append_nil]
        exact k3
      · rintro j σ Hj hj ⟨v3', rfl, m1, m2, m3⟩
        obtain ⟨_, _, hqj, _⟩ := id m2
        refine ⟨_, rfl, .inl ⟨rfl, _, SqL.of hqj⟩, ?_⟩
        refine ⟨_, rfl, _, rfl, _, rfl, g, a, p, kvs, os, i, k, j, ?_, PAt.same m1, W, hk, by omega, fun H2 r dx dc le cnt fin s2 hr0 hr1 hle0 hle hlt hnd => ?_⟩
        · rw [Int.zero_add]
          rfl
        have nq : le ≠ q := Ne.symm (ne_of_none hqj hle0)
        obtain ⟨xs, x1, x2, x3⟩ := (m2.same s2).push hle nq
        refine ⟨r, c.run, dx, _, _, rfl, hr1, T.run.cl, T.run.no _ (by decide), runF_l, q, _, _, rfl, rfl, x1, ?_, ?_⟩
        · rw [x2]
          show (List.map _ _).length < sizeLine
          rw [List.length_map, List.length_append, List.length_take, ordersE_len]
          omega
        refine ⟨_, rfl, fun b o e => ?_, ?_, ?_⟩
        · rw [upd_ne (ne_of_none e hq)]
          exact s2 _ _ (m1 _ _ e)
        · rw [ordersE_take p k j hj, ← List.append_assoc]
          show LLAt _ q (List.map _ (_ ++ [_]))
          rw [List.map_append]
          exact x3
        · intro es he
          rw [ordersE_take p k j hj, ← List.append_assoc] at he
          have he : es ∈ List.map (fun o => o.l) ((ordersTo p i ++ (ordersE p k).take j) ++ [(⟨k, j, (Vakepa.run p [] k (Vakepa.valuesOf p j)).entered⟩ : Vakepe.Order)]) := he
          rw [List.map_append] at he
          rcases List.mem_append.mp he with z | z
          · exact m3 es z
          · rw [List.mem_singleton.mp z]
            exact ⟨hlt, hnd⟩
      · rintro σ Hj ⟨v3', rfl, m1, m2, m3⟩
        have e : (ordersE p k).take (Vakepa.total p) = ordersE p k := by
          rw [List.take_of_length_le (by rw [ordersE_len]; exact Nat.le_refl _)]
        rw [e, ← ordersTo_succ hk] at m2 m3
        exact ⟨_, v3', rfl, m1, m2, m3⟩
    · rintro σ Hi ⟨v2, v3, rfl, k1, k2, k3⟩
      rw [ordersTo_all] at k2 k3
      exact ⟨_, rfl, h Hi q k1 hq k2 k3⟩
end
end Pk
end
section
set_option Elab.async false
set_option linter.all false
set_option maxRecDepth 100000
set_option maxHeartbeats 4000000
namespace Pk
open PySem PySem.Spec PyProof.Rows L2
open Vakepa (Piece Part Prog Raw RawPart)
theorem nL_of {l : List Nat} {m : Nat} {x : V} (h : (nL l)[m]? = some x) : ∃ n, l[m]? = some n ∧ x = .int (n : Int) := by
  unfold nL at h
  rw [List.getElem?_map] at h
  cases z : l[m]? with
  | none => rw [z] at h; cases h
  | some k => rw [z] at h; exact ⟨k, rfl, (Option.some.inj h).symm⟩
theorem ref_of {as : List Addr} {i : Nat} {x : V} (h : (as.map V.ref)[i]? = some x) : ∃ b, as[i]? = some b ∧ x = .ref b := by
  rw [List.getElem?_map] at h
  cases z : as[i]? with
  | none => rw [z] at h; cases h
  | some k => rw [z] at h; exact ⟨k, rfl, (Option.some.inj h).symm⟩
theorem nL_filter_snoc {l : List Nat} {f : Nat → Bool} {i k : Nat} (h : l[i]? = some k) (q : f k = true) : nL ((l.take (i + 1)).filter f) = nL ((l.take i).filter f) ++ [.int (k : Int)] := by
  rw [take_snocG h, List.filter_append, List.filter_cons, if_pos q, List.filter_nil, nL_snoc]
theorem filter_skip {l : List Nat} {f : Nat → Bool} {i k : Nat} (h : l[i]? = some k) (q : f k = false) : (l.take (i + 1)).filter f = (l.take i).filter f := by
  rw [take_snocG h, List.filter_append, List.filter_cons, if_neg (by rw [q]; exact Bool.false_ne_true), List.filter_nil, List.append_nil]
section
variable {P : Program} {w : World} {K : PySem.W.Frag} {mg : Str → Option Value} {base : Heap} {c : Cs}
/-! ### reached_parts -/
def spReached (K : PySem.W.Frag) : Sp := fun vs H Q _ => ∃ (r : Addr) (rs : List (List Nat)) (n : Nat), vs = [.ref r] ∧ LLAt H r rs ∧ (∀ es ∈ rs, LsOk n es) ∧ n ≤ 10 ∧
  ∀ (H' : Hp) (q : Addr), Same H H' → H q = none → H' q = some (.lst (nL (metOf rs))) → Q (.ref q) H'
theorem scReached : FnScope ["all_runs", "met", "entered", "part"] ["all_runs"] (defScope s_reached_parts) := ⟨rfl, rfl, rfl, by decide +kernel, rfl, by decide +kernel, by decide +kernel⟩
theorem ok_reached (D : DefAt K mg "reached_parts" s_reached_parts) : Ok P w K mg base CX0 1 "reached_parts" ["all_runs"] (spReached K) := by
  refine Ok.mk' D (fun f fd F => F.ok scReached (fun vs H Q E h => ?_) (fun cdv A outer s H vs Q E hr h => ?_)) (fun _ _ _ _ _ _ us hl => match us, hl with | [_], _ => rfl)
  · obtain ⟨r, rs, n, rfl, _⟩ := h
    rfl
  · obtain ⟨r, rs, n, rfl, hrs, hes, hn, h⟩ := h
    refine ⟨_, pss_cons (ps_set (i := 1) scReached.nd rfl (.inr rfl) (pe_lst pa_nil))
      (pss_cons (ps_for PassesOwn.never rfl (pi_list (pv 0)) (pg_name (i := 2) scReached.nd rfl (.inl rfl))
        (pss_one (ps_expr (pe_bm PySem.F.plainAttrs_list PySem.F.slot_list_extend PySem.F.type_list_extend mt_extend (pv 1) (pa_cons
          (pe_lc (own := [("part", 3)]) (g := gName 3) rfl scReached.nd (pi_list (pv 2)) (blkOk_by (N := ["all_runs", "met", "entered", "part"]) (sc := defScope s_reached_parts) (by decide +kernel))
            (fun _ _ _ _ _ => pg_name (i := 3) scReached.nd rfl (Or.inl rfl)) (fun _ _ _ _ _ => pts_one (pt_cmpR (r := rIn K true) op_notIn_seq (pv 3) (pv 1) (by rfl))) (fun _ _ _ _ _ => pv 3)) pa_nil)))))
      (pss_one (ps_ret (pv 1)))), ?_⟩
    have hsz : sizeLine = 16777216 := sizeLine_eq
    have hlen : ∀ i, (metOf (rs.take i)).length ≤ 10 := fun i => by
      have h1 : (metOf (rs.take i)).Nodup := met_nodup fun es he => (hes es (List.mem_of_mem_take he)).nd
      have := nodup_bound n _ h1 fun x hx => by
        obtain ⟨es, he, hx⟩ := met_mem.mp hx
        exact (hes es (List.mem_of_mem_take he)).lt x hx
      omega
    refine ⟨Nat.zero_le _, fun q hq => ?_⟩
    have S1 := Same.new (o := .lst []) hq
    obtain ⟨as, h0, k1, k2⟩ := id hrs
    refine ⟨_, rfl, r, rfl, ⟨_, SqL.of (S1 _ _ k1)⟩, ?_⟩
    refine for_list (Pv := fun i σ H' => ∃ v2 v3 : Option V, σ = [some (.ref r), some (.ref q), v2, v3] ∧ Same H H' ∧ H' q = some (.lst (nL (metOf (rs.take i)))))
      ⟨none, none, rfl, S1, upd_same⟩ (fun i σ H' _ ⟨_, _, _, e, _⟩ => SqL.of (e _ _ k1)) ?_ ?_
    · rintro i x σ H1 hx ⟨v2, v3, rfl, m1, m2⟩
      obtain ⟨b, hb, rfl⟩ := ref_of hx
      obtain ⟨es, he, hT⟩ := k2.get' hb
      have hT1 := m1 _ _ hT
      have EO := hes es (List.mem_of_getElem? he)
      refine ⟨_, rfl, .inl ⟨rfl, _, SqL.of m2⟩, ?_⟩
      refine ⟨_, rfl, b, rfl, ⟨_, SqL.of hT1⟩, fun D hD => ?_⟩
      refine lc_list (K := K) (a := b) (xs := nL es) (fun j H2 => Same H1 H2 ∧ H2 D = some (.lst (nL ((es.take j).filter fun k => !(metOf (rs.take i)).contains k))))
        ⟨Same.new hD, upd_same⟩ (fun j H2 _ z => SqL.of (z.1 _ _ hT1)) ?_ ?_
      · rintro j x H2 hx ⟨s3, hD2⟩
        obtain ⟨k, hk, rfl⟩ := nL_of hx
        refine ⟨rfl, ?_⟩
        refine ⟨_, rfl, _, rfl, q, _, rfl, .inl (SqL.of (s3 _ _ m2)), rfl, nL_flat _, _, rfl, ?_⟩
        dsimp only
        rw [nL_in]
        cases y : (metOf (rs.take i)).contains k with
        | true =>
          refine iteF ?_
          refine ⟨s3, ?_⟩
          rw [filter_skip hk (by rw [y]; rfl)]
          exact hD2
        | false =>
          refine iteT ?_
          refine ⟨_, rfl, _, hD2, ?_, fun b o z => ?_, ?_⟩
          · rw [nL_len]
            have h1 := List.length_filter_le (fun k => !(metOf (rs.take i)).contains k) (es.take j)
            have h2 := nodup_bound n _ EO.nd EO.lt
            rw [List.length_take] at h1
            omega
          · rw [upd_ne (ne_of_none z hD)]
            exact s3 b o z
          · rw [upd_same, nL_filter_snoc hk (by rw [y]; rfl)]
      · rintro H2 ⟨s3, hD2⟩
        rw [nL_len, List.take_length] at hD2
        have nqD : q ≠ D := ne_of_none m2 hD
        have hm := hlen (i + 1)
        rw [met_take he] at hm
        unfold mstep at hm
        rw [List.length_append] at hm
        refine ⟨q, D, _, _, rfl, rfl, s3 _ _ m2, hD2, ?_, ?_⟩
        · rw [nL_len, nL_len]
          omega
        · refine ⟨_, _, rfl, fun b o z => ?_, ?_⟩
          · rw [upd_ne (ne_of_none z hq)]
            exact s3 _ _ (m1 _ _ z)
          · rw [upd_same, met_take he]
            unfold mstep nL
            rw [List.map_append]
    · rintro σ H1 ⟨v2, v3, rfl, m1, m2⟩
      rw [List.length_map, k2.len, List.take_length] at m2
      exact ⟨_, rfl, h H1 q m1 hq m2⟩
end
end Pk
end
section
set_option Elab.async false
set_option linter.all false
set_option maxRecDepth 100000
set_option maxHeartbeats 4000000
namespace Pk
open PySem PySem.Spec PyProof.Rows L2
open Vakepa (Piece Part Prog Raw RawPart)
theorem eqV_nat {a b : Nat} : eqV (V.int (a : Int)) (V.int (b : Int)) = decide (a = b) := by
  show ((a : Int) == (b : Int)) = _
  rw [Bool.eq_iff_iff, beq_iff_eq, decide_eq_true_eq]
  omega
theorem firstN {M : Nat} : ∀ {l : List Nat}, M ∈ l → ∃ j, l[j]? = some M ∧ ∀ (m x : Nat), m < j → l[m]? = some x → x ≠ M
  | [], h => by cases h
  | a :: r, h => by
    by_cases q : a = M
    · exact ⟨0, by rw [q]; rfl, fun m x hm => by omega⟩
    · have hr : M ∈ r := by
        rcases List.mem_cons.mp h with z | z
        · exact absurd z.symm q
        · exact z
      obtain ⟨j, h1, h2⟩ := firstN hr
      refine ⟨j + 1, h1, fun m x hm hx => ?_⟩
      match m with
      | 0 =>
        have e : a = x := Option.some.inj hx
        rw [← e]
        exact q
      | m + 1 => exact h2 m x (by omega) hx
theorem nats_sum : ∀ l : List Nat, (l.map fun (n : Nat) => (n : Int)).sum = ((l.sum : Nat) : Int)
  | [] => rfl
  | a :: r => by
    rw [List.map_cons, List.sum_cons, List.sum_cons, nats_sum r]
    omega
theorem nL_ints (l : List Nat) : nL l = (l.map fun (n : Nat) => (n : Int)).map V.int := by
  unfold nL
  rw [List.map_map]
  rfl
/-- xs[:j] -/
theorem cutN {l : List Nat} {j : Nat} (h : j ≤ l.length) : cutV (nL l) none (some (j : Int)) = nL (l.take j) := by
  unfold cutV
  rw [nL_len, show HT.sIx l.length 0 none = 0 from rfl, (HT.sIx_nat l.length l.length j).trans (Nat.min_eq_left h)]
  unfold nL
  rw [List.drop_zero, List.map_take]
  rfl
section
variable {P : Program} {w : World} {K : PySem.W.Frag} {mg : Str → Option Value} {base : Heap} {c : Cs}
/-! ### leads_to -/
def spLeads (K : PySem.W.Frag) : Sp := fun vs H Q _ => ∃ (r : Addr) (rs : List (List Nat)) (k : Nat), vs = [.ref r, .int (k : Int)] ∧ LLAt H r rs ∧ rs.length ≤ 1000 ∧
  ∀ (H' : Hp) (q : Addr), Same H H' → H q = none → LLAt H' q (leadsOf k rs) → Q (.ref q) H'
theorem scLeads : FnScope ["all_runs", "part", "entered"] ["all_runs", "part"] (defScope s_leads_to) := ⟨rfl, rfl, rfl, by decide +kernel, rfl, by decide +kernel, by decide +kernel⟩
theorem ok_leads (D : DefAt K mg "leads_to" s_leads_to) : Ok P w K mg base CX0 1 "leads_to" ["all_runs", "part"] (spLeads K) := by
  refine Ok.mk' D (fun f fd F => F.ok scLeads (fun vs H Q E h => ?_) (fun cdv A outer s H vs Q E hr h => ?_)) (fun _ _ _ _ _ _ us hl => match us, hl with | [_, _], _ => rfl)
  · obtain ⟨r, rs, k, rfl, _⟩ := h
    rfl
  · obtain ⟨r, rs, k, rfl, hrs, hrl, h⟩ := h
    refine ⟨_, pss_one (ps_ret (pe_lc (own := [("entered", 2)]) (g := gName 2) (te := tSl (rSlL K) (tVar 2) tNoPart (tPart (tBM K "list" (rIndex K) (tVar 2) (tCons (tVar 1) tNil)))) rfl scLeads.nd (pi_list (pv 0)) (blkOk_by (N := ["all_runs", "part", "entered"]) (sc := defScope s_leads_to) (by decide +kernel))
            (fun _ _ _ _ _ => pg_name (i := 2) scLeads.nd rfl (Or.inl rfl)) (fun _ _ _ _ _ => pts_one (pt_cmpR (r := rIn K false) op_in_seq (pv 1) (pv 2) (by rfl)))
            (fun _ _ _ _ _ => pe_slice sl_list (pv 2) po_none (po_some (pe_bm PySem.F.plainAttrs_list PySem.F.slot_list_index PySem.F.type_list_index mt_index (pv 2) (pa_cons (pv 1) pa_nil)))))), ?_⟩
    have hsz : sizeLine = 16777216 := sizeLine_eq
    obtain ⟨as, h0, k1, k2⟩ := id hrs
    refine ⟨_, rfl, r, rfl, ⟨_, SqL.of k1⟩, fun D hD => ?_⟩
    refine lc_list (K := K) (a := r) (xs := as.map V.ref) (fun i H2 => Same H H2 ∧ LLAt H2 D (leadsOf k (rs.take i)))
      ⟨Same.new hD, .nil upd_same⟩ (fun j H2 _ z => SqL.of (z.1 _ _ k1)) ?_ ?_
    · rintro i x H2 hx ⟨s3, hD2⟩
      obtain ⟨b, hb, rfl⟩ := ref_of hx
      obtain ⟨es, he, hT⟩ := k2.get' hb
      have hT2 := s3 _ _ hT
      refine ⟨rfl, ?_⟩
      refine ⟨_, rfl, _, rfl, b, _, rfl, .inl (SqL.of hT2), rfl, nL_flat _, _, rfl, ?_⟩
      dsimp only
      rw [nL_in]
      cases y : es.contains k with
      | false =>
        refine iteF ?_
        refine ⟨s3, ?_⟩
        have e : leadsOf k (rs.take (i + 1)) = leadsOf k (rs.take i) := by
          unfold leadsOf
          rw [take_snocG he, List.filter_append, List.filter_cons, if_neg (by rw [y]; exact Bool.false_ne_true), List.filter_nil, List.append_nil]
        rw [e]
        exact hD2
      | true =>
        refine iteT ?_
        obtain ⟨j, hj, hj1⟩ := firstN (List.contains_iff_mem.mp y)
        have hjl := (List.getElem?_eq_some_iff.mp hj).1
        refine ⟨_, rfl, _, rfl, .inl ⟨rfl, _, SqL.of hT2⟩, _, rfl, b, _, _, j, _, rfl, rfl, SqL.of hT2, rfl, nL_flat es, nL_at hj, by rw [eqV_nat]; exact decide_eq_true rfl, fun m x hm hx => ?_, ?_⟩
        · obtain ⟨z, hz, rfl⟩ := nL_of hx
          rw [eqV_nat]
          exact decide_eq_false (hj1 m z hm hz)
        refine ⟨_, rfl, b, _, rfl, SqL.of hT2, fun p hp => ?_⟩
        rw [cutN (by omega), lead_take hj hj1]
        have s4 := Same.new (o := .lst (nL (leadOf k es))) hp
        obtain ⟨_, _, hq2, _⟩ := id hD2
        have npD : p ≠ D := Ne.symm (ne_of_none hq2 hp)
        obtain ⟨xs, x1, x2, x3⟩ := (hD2.same s4).push upd_same npD
        refine ⟨_, x1, ?_, fun b o z => ?_, ?_⟩
        · rw [x2]
          unfold leadsOf
          rw [List.length_map]
          have := List.length_filter_le (fun es => es.contains k) (rs.take i)
          rw [List.length_take] at this
          omega
        · rw [upd_ne (ne_of_none z hD)]
          exact s4 _ _ (s3 _ _ z)
        · have e : leadsOf k (rs.take (i + 1)) = leadsOf k (rs.take i) ++ [leadOf k es] := by
            unfold leadsOf
            rw [take_snocG he, List.filter_append, List.filter_cons, if_pos y, List.filter_nil, List.map_append]
            rfl
          rw [e]
          exact x3
    · rintro H2 ⟨s3, hD2⟩
      rw [List.length_map, k2.len, List.take_length] at hD2
      exact h H2 D s3 hD hD2
/-! ### parts_in_each -/
def spEach (K : PySem.W.Frag) : Sp := fun vs H Q _ => ∃ (r : Addr) (ls : List (List Nat)) (n : Nat), vs = [.ref r] ∧ LLAt H r ls ∧ (∀ es ∈ ls, LsOk n es) ∧ n ≤ 10 ∧
  ∀ (H' : Hp) (q : Addr), Same H H' → H q = none → H' q = some (.lst (nL (secOf n ls))) → Q (.ref q) H'
theorem scEach : FnScope ["leads", "shared", "lead", "part"] ["leads"] (defScope s_parts_in_each) := ⟨rfl, rfl, rfl, by decide +kernel, rfl, by decide +kernel, by decide +kernel⟩
theorem ok_each (hl : mg "len" = none) (hso : mg "sorted" = none) (D : DefAt K mg "parts_in_each" s_parts_in_each) : Ok P w K mg base CX0 1 "parts_in_each" ["leads"] (spEach K) := by
  refine Ok.mk' D (fun f fd F => F.ok scEach (fun vs H Q E h => ?_) (fun cdv A outer s H vs Q E hr h => ?_)) (fun _ _ _ _ _ _ us hl => match us, hl with | [_], _ => rfl)
  · obtain ⟨r, rs, n, rfl, _⟩ := h
    rfl
  · obtain ⟨r, ls, n, rfl, hrs, hes, hn, h⟩ := h
    refine ⟨_, pss_cons (ps_if (pt_cmpR op_eq (pe_callB call_len_seq (by rfl) hl PySem.boot_len (pa_cons (pv 0) pa_nil)) pe_int (nomark _)) (pss_one (ps_ret (pe_lst pa_nil))) pss_nil)
      (pss_cons (ps_set (i := 1) scEach.nd rfl (.inl rfl) (pe_ix ix_list (pv 0) pe_int (fun _ _ => rfl)))
      (pss_cons (ps_for PassesOwn.never rfl (pi_list (pv 0)) (pg_name (i := 2) scEach.nd rfl (.inr rfl))
        (pss_one (ps_setLc (i := 1) (own := [("part", 3)]) (g := gName 3) rfl scEach.nd rfl rfl (sw_true rfl rfl rfl rfl) (pi_list (pv 1)) (blkOk_by (N := ["leads", "shared", "lead", "part"]) (sc := defScope s_parts_in_each) (by decide +kernel))
            (fun _ _ _ _ _ => pg_name (i := 3) scEach.nd rfl (Or.inl rfl)) (fun _ _ _ _ _ => pts_one (pt_cmpR (r := rIn K false) op_in_seq (pv 3) (pv 2) (by rfl))) (fun _ _ _ _ _ => pv 3))))
      (pss_one (ps_ret (pe_callB cr_sortedI (by rfl) hso boot_sorted (pa_cons (pv 1) pa_nil)))))), ?_⟩
    have hsz : sizeLine = 16777216 := sizeLine_eq
    obtain ⟨as, h0, k1, k2⟩ := id hrs
    refine ⟨_, rfl, _, _, rfl, .inl (SqL.of k1), rfl, _, rfl, ?_⟩
    rw [List.length_map, k2.len]
    refine ited (fun q => ?_) (fun q => ?_)
    · have e : ls = [] := List.length_eq_zero_iff.mp (by have y : (ls.length : Int) = 0 := V.int.inj q; omega)
      subst e
      exact ⟨Nat.zero_le _, fun p hp => h _ p (Same.new hp) hp (by rw [upd_same, sec_nil]; rfl)⟩
    · have hls : 0 < ls.length := by
        rcases Nat.eq_zero_or_pos ls.length with z | z
        · exact absurd (by rw [z]; rfl) q
        · exact z
      obtain ⟨l0, hl0⟩ : ∃ l0, ls[0]? = some l0 := ⟨_, List.getElem?_eq_getElem hls⟩
      obtain ⟨a0, ha0, hT0⟩ := k2.get hl0
      have E0 := hes l0 (List.mem_of_getElem? hl0)
      refine ⟨_, rfl, r, _, _, _, rfl, rfl, SqL.of k1, atI_nat (j := 0) (v := .ref a0) (by rw [List.getElem?_map, ha0]; rfl), ?_⟩
      refine ⟨_, rfl, r, rfl, ⟨_, SqL.of k1⟩, ?_⟩
      refine for_list (Pv := fun i σ H' => ∃ (v : Addr) (v2 v3 : Option V), σ = [some (.ref r), some (.ref v), v2, v3] ∧ Same H H' ∧ H' v = some (.lst (nL (sharedTo l0 ls i))))
        ⟨a0, none, none, rfl, fun _ _ z => z, by rw [sharedTo_zero]; exact hT0⟩ (fun i σ H' _ ⟨_, _, _, _, e, _⟩ => SqL.of (e _ _ k1)) ?_ ?_
      · rintro i x σ H1 hx ⟨v, v2, v3, rfl, m1, m2⟩
        obtain ⟨b, hb, rfl⟩ := ref_of hx
        obtain ⟨es, he, hT⟩ := k2.get' hb
        have hT1 := m1 _ _ hT
        refine ⟨_, rfl, v, rfl, ⟨_, SqL.of m2⟩, fun D hD => ?_⟩
        refine lc_list (K := K) (a := v) (xs := nL (sharedTo l0 ls i)) (fun j H2 => Same H1 H2 ∧ H2 D = some (.lst (nL (((sharedTo l0 ls i).take j).filter fun k => es.contains k))))
          ⟨Same.new hD, upd_same⟩ (fun j H2 _ z => SqL.of (z.1 _ _ m2)) ?_ ?_
        · rintro j x H2 hx ⟨s3, hD2⟩
          obtain ⟨k, hk, rfl⟩ := nL_of hx
          refine ⟨rfl, ?_⟩
          refine ⟨_, rfl, _, rfl, b, _, rfl, .inl (SqL.of (s3 _ _ hT1)), rfl, nL_flat _, _, rfl, ?_⟩
          dsimp only
          rw [nL_in]
          cases y : es.contains k with
          | false =>
            refine iteF ?_
            refine ⟨s3, ?_⟩
            rw [filter_skip hk y]
            exact hD2
          | true =>
            refine iteT ?_
            refine ⟨_, rfl, _, hD2, ?_, fun b o z => ?_, ?_⟩
            · rw [nL_len]
              have h1 := List.length_filter_le (fun k => es.contains k) ((sharedTo l0 ls i).take j)
              have h2 := nodup_bound n _ E0.nd E0.lt
              have h3 := List.length_filter_le (fun j => (ls.take i).all fun es => es.contains j) l0
              rw [List.length_take] at h1
              unfold sharedTo at h1 ⊢
              omega
            · rw [upd_ne (ne_of_none z hD)]
              exact s3 b o z
            · rw [upd_same, nL_filter_snoc hk y]
        · rintro H2 ⟨s3, hD2⟩
          rw [nL_len, List.take_length, ← sharedTo_succ he] at hD2
          exact ⟨D, _, _, rfl, m1.trans s3, hD2⟩
      · rintro σ H1 ⟨v, v2, v3, rfl, m1, m2⟩
        rw [List.length_map, k2.len] at m2
        refine ⟨_, rfl, v, (sharedTo l0 ls ls.length).map fun (k : Nat) => (k : Int), rfl, SqL.of (m2.trans ?_), fun ns p hp hs hn1 => ?_⟩
        · unfold nL
          rw [List.map_map]
          rfl
        · have e := sec_sorted hl0 E0.nd E0.lt hp hs
          refine h _ p (m1.trans (Same.new hn1)) (m1.free hn1) ?_
          rw [upd_same, e]
          unfold nL
          rw [List.map_map]
          rfl
end
end Pk
end
section
set_option Elab.async false
set_option linter.all false
set_option maxRecDepth 100000
set_option maxHeartbeats 4000000
namespace Pk
open PySem PySem.Spec PyProof.Rows L2
open Vakepa (Piece Part Prog Raw RawPart)
/-- as LLAt, and u is none of the lists -/
def LLX (H : Hp) (q u : Addr) (rs : List (List Nat)) : Prop := ∃ as : List Addr, (∀ a ∈ as, a ≠ q ∧ a ≠ u) ∧ H q = some (.lst (as.map V.ref)) ∧ All2 (fun a (r : List Nat) => H a = some (.lst (nL r))) as rs
theorem LLX.same {H H' : Hp} (s : Same H H') {q u : Addr} {rs : List (List Nat)} (h : LLX H q u rs) : LLX H' q u rs := by
  obtain ⟨as, h0, h1, h2⟩ := h
  exact ⟨as, h0, s _ _ h1, h2.imp fun _ _ e => s _ _ e⟩
theorem LLX.nil {H : Hp} {q u : Addr} (h : H q = some (.lst [])) : LLX H q u [] := ⟨[], fun _ z => (by cases z), h, .nil⟩
theorem LLX.push {H : Hp} {q u le : Addr} {rs : List (List Nat)} {es : List Nat} (h : LLX H q u rs) (hl : H le = some (.lst (nL es))) (n : le ≠ q ∧ le ≠ u) : ∃ xs : List V, H q = some (.lst xs) ∧ xs.length = rs.length ∧ LLX (upd H q (.lst (xs ++ [.ref le]))) q u (rs ++ [es]) := by
  obtain ⟨as, h0, h1, h2⟩ := h
  refine ⟨_, h1, by rw [List.length_map, h2.len], as ++ [le], fun a ha => ?_, ?_, All2.snoc ?_ (h2.impm fun a x ha z => ?_)⟩
  · rcases List.mem_append.mp ha with z | z
    · exact h0 a z
    · rw [List.mem_singleton.mp z]
      exact n
  · rw [upd_same, List.map_append]
    rfl
  · exact (upd_ne n.1).trans hl
  · exact (upd_ne (h0 a ha).1).trans z
theorem All2.app {α β : Type} {R : α → β → Prop} : ∀ {l l' : List α} {m m' : List β}, All2 R l m → All2 R l' m' → All2 R (l ++ l') (m ++ m')
  | _, _, _, _, .nil, h => h
  | _, _, _, _, .cons x r, h => .cons x (r.app h)
/-- all of another list at the end -/
theorem LLAt.extend {H : Hp} {u D : Addr} {rs ss : List (List Nat)} (h : LLAt H u rs) (k : LLX H D u ss) : ∃ xs ys : List V, H u = some (.lst xs) ∧ H D = some (.lst ys) ∧ xs.length = rs.length ∧ ys.length = ss.length ∧ LLAt (upd H u (.lst (xs ++ ys))) u (rs ++ ss) := by
  obtain ⟨as, h0, h1, h2⟩ := h
  obtain ⟨bs, k0, k1, k2⟩ := k
  refine ⟨_, _, h1, k1, by rw [List.length_map, h2.len], by rw [List.length_map, k2.len], as ++ bs, fun a ha => ?_, ?_, All2.app (h2.impm fun a x ha z => ?_) (k2.impm fun a x ha z => ?_)⟩
  · rcases List.mem_append.mp ha with z | z
    · exact h0 a z
    · exact (k0 a z).2
  · rw [upd_same, List.map_append]
  · exact (upd_ne (h0 a ha)).trans z
  · exact (upd_ne (k0 a ha).2).trans z
section
variable {P : Program} {w : World} {K : PySem.W.Frag} {mg : Str → Option Value} {base : Heap} {c : Cs}
def spPlansFor (K : PySem.W.Frag) : Sp := fun vs H Q _ => ∃ (r : Addr) (need : List Nat) (n : Nat), vs = [.ref r, .int (n : Int)] ∧ SqL K H r (nL need) ∧ n ≤ 10 ∧
  ∀ (H' : Hp) (q : Addr), Same H H' → H q = none → LLAt H' q (plansTo need n) → Q (.ref q) H'
theorem scPlansFor : FnScope ["reached", "parts", "plans", "part", "longer", "plan", "pack"] ["reached", "parts"] (defScope s_plans_for) := ⟨rfl, rfl, rfl, by decide +kernel, rfl, by decide +kernel, by decide +kernel⟩
def extOf (need : List Nat) (i : Nat) (l : List Nat) : List (List Nat) := (choices need i).map fun x => l ++ [x]
theorem plansTo_succ (need : List Nat) (i : Nat) : plansTo need (i + 1) = (plansTo need i).flatMap (extOf need i) := rfl
theorem extOf_len (need : List Nat) (i : Nat) (l : List Nat) : (extOf need i l).length ≤ 3 := by
  unfold extOf
  rw [List.length_map]
  unfold choices
  split <;> decide
theorem plan_len (need : List Nat) : ∀ (i : Nat), ∀ l ∈ plansTo need i, l.length = i
  | 0, l, h => by
    have h : l ∈ [[]] := h
    rw [List.mem_singleton.mp h]
    rfl
  | i + 1, l, h => by
    rw [plansTo_succ] at h
    obtain ⟨r, hr, h⟩ := List.mem_flatMap.mp h
    unfold extOf at h
    obtain ⟨x, _, rfl⟩ := List.mem_map.mp h
    rw [List.length_append, plan_len need i r hr]
    rfl
theorem ok_plansFor (hrg : mg "range" = none) (gU : GI mg "UNREACHED_PACK" 3) (D : DefAt K mg "plans_for" s_plans_for) : Ok P w K mg base CX0 1 "plans_for" ["reached", "parts"] (spPlansFor K) := by
  refine Ok.mk' D (fun f fd F => F.ok scPlansFor (fun vs H Q E h => ?_) (fun cdv A outer s H vs Q E hr h => ?_)) (fun _ _ _ _ _ _ us hl => match us, hl with | [_, _], _ => rfl)
  · obtain ⟨r, need, n, rfl, _⟩ := h
    rfl
  · obtain ⟨r, need, n, rfl, hneed, hn, h⟩ := h
    refine ⟨_, pss_cons (ps_set (i := 2) scPlansFor.nd rfl (.inl rfl) (pe_lst (pa_cons (pe_lst pa_nil) pa_nil)))
      (pss_cons (ps_for PassesOwn.never rfl (pi_range1 (by rfl) hrg (pa_cons (pv 1) pa_nil)) (pg_name (i := 3) scPlansFor.nd rfl (.inl rfl))
        (pss_cons (ps_set (i := 4) scPlansFor.nd rfl (.inl rfl) (pe_lst pa_nil))
        (pss_cons (ps_for PassesOwn.never rfl (pi_list (pv 2)) (pg_name (i := 5) scPlansFor.nd rfl (.inr rfl))
          (pss_one (ps_if (pt_cmpR op_in_seq (pv 3) (pv 0) (by rfl))
            (pss_one (ps_expr (pe_bm PySem.F.plainAttrs_list PySem.F.slot_list_extend PySem.F.type_list_extend mt_extend (pv 4) (pa_cons
              (pe_lc (own := [("pack", 6)]) (g := gName 6) (tt := tYes) rfl scPlansFor.nd (pi_range1 (by rfl) hrg (pa_cons (gi gU) pa_nil)) (blkOk_by (N := ["reached", "parts", "plans", "part", "longer", "plan", "pack"]) (sc := defScope s_plans_for) (by decide +kernel))
                (fun _ _ _ _ _ => pg_name (i := 6) scPlansFor.nd rfl (Or.inl rfl)) (fun _ _ _ _ _ => pts_nil) (fun _ _ _ _ _ => pe_op op_cat (pv 5) (pe_lst (pa_cons (pv 6) pa_nil)))) pa_nil))))
            (pss_one (ps_expr (pe_bm PySem.F.plainAttrs_list PySem.F.slot_list_append PySem.F.type_list_append mt_append (pv 4) (pa_cons (pe_op op_cat (pv 5) (pe_lst (pa_cons (gi gU) pa_nil))) pa_nil)))))))
        (pss_one (ps_set (i := 2) scPlansFor.nd rfl (.inl rfl) (pv 4))))))
      (pss_one (ps_ret (pv 2)))), ?_⟩
    have hsz : sizeLine = 16777216 := sizeLine_eq
    have hpow : ∀ i, i ≤ 10 → 3 ^ i ≤ 59049 := fun i hi => Nat.pow_le_pow_right (n := 3) (by decide) hi
    refine ⟨Nat.zero_le _, fun p0 hp0 => ⟨by show 1 ≤ sizeLine; omega, fun p1 hp1 => ?_⟩⟩
    have S0 := Same.new (o := .lst []) hp0
    have S1 := S0.trans (Same.new (o := .lst [.ref p0]) hp1)
    have n01 : p0 ≠ p1 := ne_of_none upd_same hp1
    refine ⟨_, rfl, _, rfl, by omega, by omega, ?_⟩
    rw [Int.toNat_natCast]
    refine for_range (Pv := fun i σ H' => ∃ (v : Addr) (v3 v4 v5 v6 : Option V), σ = [some (.ref r), some (.int (n : Int)), some (.ref v), v3, v4, v5, v6] ∧ Same H H' ∧ H v = none ∧ LLAt H' v (plansTo need i))
      ⟨p1, none, none, none, none, rfl, S1, S0.free hp1, [p0], fun a ha => by rw [List.mem_singleton.mp ha]; exact n01, upd_same, .cons ((upd_ne n01).trans upd_same) .nil⟩ ?_ ?_
    · rintro i σ H1 hi ⟨v, v3, v4, v5, v6, rfl, m1, m2, m3⟩
      have hpl := plansTo_len need i
      have hp9 := hpow (i + 1) (by omega)
      rw [Nat.pow_succ] at hp9
      refine ⟨Nat.zero_le _, fun u hu => ?_⟩
      have su := Same.new (o := .lst []) hu
      obtain ⟨as, h0, k1, k2⟩ := id m3
      refine ⟨_, rfl, v, rfl, ⟨_, SqL.of (su _ _ k1)⟩, ?_⟩
      refine for_list (Pv := fun j σ H' => ∃ (v5 v6 : Option V), σ = [some (.ref r), some (.int (n : Int)), some (.ref v), some (.int (0 + (i : Int))), some (.ref u), v5, v6] ∧ Same H1 H' ∧ LLAt H' u (((plansTo need i).take j).flatMap (extOf need i)))
        ⟨v5, v6, rfl, su, .nil upd_same⟩ (fun j σ H' _ ⟨_, _, _, e, _⟩ => SqL.of (e _ _ k1)) ?_ ?_
      · rintro j x σ H2 hx ⟨v5', v6', rfl, n1, n2⟩
        obtain ⟨b, hb, rfl⟩ := ref_of hx
        obtain ⟨l, hl, hT⟩ := k2.get' hb
        have hT2 := n1 _ _ hT
        have hll := plan_len need i l (List.mem_of_getElem? hl)
        have hj : j < (plansTo need i).length := (List.getElem?_eq_some_iff.mp hl).1
        have hfl : (((plansTo need i).take j).flatMap (extOf need i)).length ≤ j * 3 := by
          have z := flat_le (extOf_len need i) ((plansTo need i).take j)
          rw [List.length_take] at z
          have : min j (plansTo need i).length * 3 ≤ j * 3 := Nat.mul_le_mul_right 3 (Nat.min_le_left ..)
          omega
        have esucc : ((plansTo need i).take (j + 1)).flatMap (extOf need i) = ((plansTo need i).take j).flatMap (extOf need i) ++ extOf need i l := by
          rw [take_snocG hl, List.flatMap_append]
          simp
        obtain ⟨_, _, hu2, _⟩ := id n2
        refine ⟨_, rfl, _, rfl, r, _, rfl, .inl ((m1.trans n1).seq hneed), rfl, nL_flat _, _, rfl, ?_⟩
        rw [Int.zero_add]
        dsimp only
        rw [nL_in]
        cases y : need.contains i with
        | true =>
          refine iteT ?_
          refine ⟨_, rfl, .inl ⟨rfl, _, SqL.of hu2⟩, ?_⟩
          refine ⟨_, rfl, by omega, by omega, fun D hD => ?_⟩
          have nuD : u ≠ D := ne_of_none hu2 hD
          refine lc_range (n := 3) (fun t H3 => Same H2 H3 ∧ LLX H3 D u ((([0, 1, 2] : List Nat).take t).map fun x => l ++ [x])) ⟨Same.new hD, .nil upd_same⟩ ?_ ?_
          · rintro t H3 ht ⟨s3, hD3⟩
            refine ⟨rfl, ?_⟩
            dsimp only [tYes]
            rw [if_pos rfl]
            refine ⟨_, rfl, _, rfl, by show 1 ≤ sizeLine; omega, fun p2 hp2 => ?_⟩
            have s4 := Same.new (o := .lst [.int (0 + (t : Int))]) hp2
            refine ⟨b, p2, _, _, rfl, rfl, s4 _ _ (s3 _ _ hT2), upd_same, ?_, fun p3 hp3 => ?_⟩
            · rw [nL_len]
              show l.length + 1 ≤ sizeLine
              omega
            have ev : nL l ++ [V.int (0 + (t : Int))] = nL (l ++ [t]) := by rw [nL_snoc, Int.zero_add]
            rw [ev]
            have s5 := s4.trans (Same.new (o := .lst (nL (l ++ [t]))) hp3)
            obtain ⟨_, _, hD3', _⟩ := id hD3
            have n3D : p3 ≠ D := Ne.symm (ne_of_none (s4 _ _ hD3') hp3)
            have n3u : p3 ≠ u := Ne.symm (ne_of_none (s4 _ _ (s3 _ _ hu2)) hp3)
            obtain ⟨xs, x1, x2, x3⟩ := (hD3.same s5).push upd_same ⟨n3D, n3u⟩
            refine ⟨_, x1, ?_, fun b o z => ?_, ?_⟩
            · rw [x2, List.length_map, List.length_take]
              show min t 3 < sizeLine
              omega
            · rw [upd_ne (ne_of_none z hD)]
              exact s5 _ _ (s3 _ _ z)
            · have e : ((([0, 1, 2] : List Nat).take (t + 1)).map fun x => l ++ [x]) = ((([0, 1, 2] : List Nat).take t).map fun x => l ++ [x]) ++ [l ++ [t]] := by
                match t, ht with
                | 0, _ => rfl
                | 1, _ => rfl
                | 2, _ => rfl
              rw [e]
              exact x3
          · rintro H3 ⟨s3, hD3⟩
            have ex : extOf need i l = (([0, 1, 2] : List Nat).take 3).map fun x => l ++ [x] := by
              unfold extOf choices
              rw [if_pos y]
              rfl
            rw [← ex] at hD3
            obtain ⟨xs, ys, x1, x2, x3, x4, x5⟩ := (n2.same s3).extend hD3
            refine ⟨u, D, _, _, rfl, rfl, x1, x2, ?_, ?_⟩
            · rw [x3, x4]
              have := extOf_len need i l
              omega
            · refine ⟨_, _, rfl, fun b o z => ?_, ?_⟩
              · rw [upd_ne (ne_of_none z hu)]
                exact s3 _ _ (n1 _ _ z)
              · rw [esucc]
                exact x5
        | false =>
          refine iteF ?_
          refine ⟨_, rfl, .inl ⟨rfl, _, SqL.of hu2⟩, ?_⟩
          refine ⟨_, rfl, by show 1 ≤ sizeLine; omega, fun p2 hp2 => ?_⟩
          have s4 := Same.new (o := .lst [.int 3]) hp2
          refine ⟨b, p2, _, _, rfl, rfl, s4 _ _ hT2, upd_same, ?_, fun p3 hp3 => ?_⟩
          · rw [nL_len]
            show l.length + 1 ≤ sizeLine
            omega
          have ev : nL l ++ [V.int 3] = nL (l ++ [3]) := by
            rw [nL_snoc]
            rfl
          rw [ev]
          have s5 := s4.trans (Same.new (o := .lst (nL (l ++ [3]))) hp3)
          have n3u : p3 ≠ u := Ne.symm (ne_of_none (s4 _ _ hu2) hp3)
          obtain ⟨xs, x1, x2, x3⟩ := (n2.same s5).push upd_same n3u
          have ex : extOf need i l = [l ++ [3]] := by
            unfold extOf choices
            rw [if_neg (by rw [y]; exact Bool.false_ne_true)]
            rfl
          refine ⟨u, _, _, rfl, rfl, x1, ?_, ?_⟩
          · rw [x2]
            omega
          · refine ⟨_, _, rfl, fun b o z => ?_, ?_⟩
            · rw [upd_ne (ne_of_none z hu)]
              exact s5 _ _ (n1 _ _ z)
            · rw [esucc, ex]
              exact x3
      · rintro σ H2 ⟨v5', v6', rfl, n1, n2⟩
        rw [List.length_map, k2.len, List.take_length, ← plansTo_succ] at n2
        exact ⟨_, rfl, u, _, _, _, _, rfl, m1.trans n1, m1.free hu, n2⟩
    · rintro σ H1 ⟨v, v3, v4, v5, v6, rfl, m1, m2, m3⟩
      exact ⟨_, rfl, h H1 v m1 m2 m3⟩
end
end Pk
end
section
set_option Elab.async false
set_option linter.all false
set_option maxRecDepth 100000
set_option maxHeartbeats 4000000
namespace Pk
open Vakepa (Piece Part Prog Raw RawPart)
/-! ### what the entries reach -/
def enteredIn (p : Prog) (k : Nat) : Bool := (Vakepe.orders p).any fun o => o.l.contains k
def reachedAll (p : Prog) : List Nat := (List.range p.parts.length).filter (enteredIn p)
theorem contains_iff {l : List Nat} {k : Nat} : l.contains k = true ↔ k ∈ l := List.contains_iff_mem
theorem inOrder_mem {p : Prog} {l : List Nat} {k : Nat} : k ∈ Vakepa.inOrder p l ↔ k < p.parts.length ∧ k ∈ l := by
  unfold Vakepa.inOrder
  rw [List.mem_filter, List.mem_range, contains_iff]
theorem union_is (p : Prog) : Vakepa.unionOf p (Vakepa.reached p) = reachedAll p := by
  unfold Vakepa.unionOf reachedAll
  show (List.range p.parts.length).filter _ = _
  refine List.filter_congr fun k hk => ?_
  rw [Bool.eq_iff_iff, contains_iff, List.mem_flatMap]
  have hk := List.mem_range.mp hk
  unfold enteredIn
  rw [List.any_eq_true]
  constructor
  · rintro ⟨e, he, h⟩
    obtain ⟨_, h⟩ := inOrder_mem.mp h
    obtain ⟨a, ha, h⟩ := List.mem_flatMap.mp h
    refine ⟨⟨e, a, (Vakepa.run p [] e (Vakepa.valuesOf p a)).entered⟩, ?_, contains_iff.mpr h⟩
    rw [orders_is]
    exact List.mem_flatMap.mpr ⟨e, he, List.mem_map.mpr ⟨a, ha, rfl⟩⟩
  · rintro ⟨o, ho, h⟩
    rw [orders_is] at ho
    obtain ⟨e, he, ho⟩ := List.mem_flatMap.mp ho
    obtain ⟨a, ha, ho⟩ := List.mem_map.mp ho
    subst ho
    exact ⟨e, he, inOrder_mem.mpr ⟨hk, List.mem_flatMap.mpr ⟨a, ha, contains_iff.mp h⟩⟩⟩
theorem orders_count {p : Prog} : (Vakepe.orders p).length = p.starts.length * Vakepa.total p := by
  rw [orders_is]
  induction p.starts with
  | nil => simp
  | cons a r ih => rw [List.flatMap_cons, List.length_append, ih, ordersE_len, List.length_cons, Nat.succ_mul, Nat.add_comm]
theorem tooMuch_is (p : Prog) : Vakepe.tooMuch p = (decide (32 < (Vakepe.orders p).length) || decide (6 < (reachedAll p).length)) := by
  unfold Vakepe.tooMuch
  rw [union_is, orders_count]
  rfl
/-! ### plans -/
theorem plansBy_len (need : List Nat) : ∀ (n k : Nat), ∀ l ∈ Vakepe.plansBy need n k, l.length = n
  | 0, _, l, h => by
    have h : l ∈ [[]] := h
    rw [List.mem_singleton.mp h]
    rfl
  | n + 1, k, l, h => by
    have h : l ∈ (if need.contains k = true then [0, 1, 2] else [3]).flatMap fun x => (Vakepe.plansBy need n (k + 1)).map fun r => x :: r := h
    obtain ⟨x, _, h⟩ := List.mem_flatMap.mp h
    obtain ⟨r, hr, h⟩ := List.mem_map.mp h
    rw [← h, List.length_cons, plansBy_len need n (k + 1) r hr]
theorem plansBy_lt (need : List Nat) : ∀ (n k : Nat), ∀ l ∈ Vakepe.plansBy need n k, ∀ x ∈ l, x < 4
  | 0, _, l, h, x, hx => by
    have h : l ∈ [[]] := h
    rw [List.mem_singleton.mp h] at hx
    cases hx
  | n + 1, k, l, h, x, hx => by
    have h : l ∈ (if need.contains k = true then [0, 1, 2] else [3]).flatMap fun x => (Vakepe.plansBy need n (k + 1)).map fun r => x :: r := h
    obtain ⟨y, hy, h⟩ := List.mem_flatMap.mp h
    obtain ⟨r, hr, h⟩ := List.mem_map.mp h
    subst h
    rcases List.mem_cons.mp hx with z | z
    · rw [z]
      by_cases q : need.contains k = true
      · rw [if_pos q] at hy
        have : ∀ y ∈ [0, 1, 2], y < 4 := by decide
        exact this y hy
      · rw [if_neg q] at hy
        rw [List.mem_singleton.mp hy]
        decide
    · exact plansBy_lt need n (k + 1) r hr x z
theorem plans_ok {p : Prog} {l : List Nat} (h : l ∈ Vakepe.plans p) : PlanOk p l := ⟨plansBy_len _ _ _ l h, plansBy_lt _ _ _ l h⟩
theorem best_is (p : Prog) (w first : Nat) : Vakepe.bestPacks p w first = ((Vakepe.plans p).filter fun l => decide (Vakepe.packSize p l 0 ≤ first)).foldl (bstep (Vakepe.totalBy p (Vakepe.orders p) w)) none := rfl
/-- the same, plan by plan -/
theorem foldl_filter {α β : Type} {f : β → α → β} {q : α → Bool} : ∀ (l : List α) (b : β), (l.filter q).foldl f b = l.foldl (fun b a => if q a = true then f b a else b) b
  | [], _ => rfl
  | a :: r, b => by
    rw [List.filter_cons, List.foldl_cons]
    by_cases h : q a = true
    · rw [if_pos h, if_pos h, List.foldl_cons]
      exact foldl_filter r _
    · rw [if_neg h, if_neg h]
      exact foldl_filter r _
end Pk
end
section
set_option Elab.async false
set_option linter.all false
set_option maxRecDepth 100000
set_option maxHeartbeats 4000000
namespace Pk
open PySem PySem.Spec PyProof.Rows L2
open Vakepa (Piece Part Prog Raw RawPart)
theorem costs_total (p : Prog) (l : List Nat) (m : Nat) : (costsOf p l m (runsOf p)).sum = Vakepe.totalBy p (Vakepe.orders p) m l := by
  unfold costsOf runsOf Vakepe.totalBy
  rw [List.map_map]
  rfl
theorem packSize_at {p : Prog} {l : List Nat} : (nL (Vakepe.sizesOf p l))[0]? = some (.int (Vakepe.packSize p l 0 : Int)) := nL_at (sizesTo_at p l p.parts.length (by decide))
theorem filter_keep {α : Type} {l : List α} {f : α → Bool} {i : Nat} {k : α} (h : l[i]? = some k) (q : f k = true) : (l.take (i + 1)).filter f = (l.take i).filter f ++ [k] := by
  rw [take_snocG h, List.filter_append, List.filter_cons, if_pos q, List.filter_nil]
theorem filter_drop {α : Type} {l : List α} {f : α → Bool} {i : Nat} {k : α} (h : l[i]? = some k) (q : f k = false) : (l.take (i + 1)).filter f = (l.take i).filter f := by
  rw [take_snocG h, List.filter_append, List.filter_cons, if_neg (by rw [q]; exact Bool.false_ne_true), List.filter_nil, List.append_nil]
section
variable {P : Program} {w : World} {K : PySem.W.Frag} {mg : Str → Option Value} {base : Heap} {c : Cs}
def spBest (K : PySem.W.Frag) (c : Cs) : Sp := fun vs H Q _ => ∃ (g r q : Addr) (a : PA) (p : Prog) (kvs : List (Key × V)) (os : List Addr) (need : List Nat) (m f : Nat) (x : Nat × List Nat), vs = [.ref g, .ref r, .ref q, .int (m : Int), .int (f : Int)] ∧ ProgAt c H g a p kvs os ∧ WF p ∧
  LLAt H r (runsOf p) ∧ (∀ es ∈ runsOf p, LsOk p.parts.length es) ∧ (runsOf p).length ≤ 1000 ∧ SqL K H q (nL need) ∧ (∀ k, need.contains k = (Vakepa.unionOf p (Vakepa.reached p)).contains k) ∧ Vakepe.bestPacks p m f = some x ∧
  ∀ (H' : Hp) (o : Addr), Same H H' → H o = none → H' o = some (.lst (nL (x.1 :: x.2))) → Q (.ref o) H'
theorem scBest : FnScope ["program", "all_runs", "reached", "more", "first", "plans", "costs", "least", "plan"] ["program", "all_runs", "reached", "more", "first"] (defScope s_best_plan) := ⟨rfl, rfl, rfl, by decide +kernel, rfl, by decide +kernel, by decide +kernel⟩
theorem ok_best (T : CsT K c) (hl : mg "len" = none) (hsm : mg "sum" = none) (hmn : mg "min" = none) (D : DefAt K mg "best_plan" s_best_plan) (A1 : Ok P w K mg base CX0 1 "pack_sizes" ["program", "plan"] (spSizes K c)) (A2 : Ok P w K mg base CX0 2 "all_costs" ["program", "plan", "all_runs", "more"] (spAllCosts K c))
    (A3 : Ok P w K mg base CX0 1 "plans_for" ["reached", "parts"] (spPlansFor K)) : Ok P w K mg base CX0 3 "best_plan" ["program", "all_runs", "reached", "more", "first"] (spBest K c) := by
  refine Ok.mk' D (fun f fd F => (F.ok scBest (fun vs H Q E h => ?_) (fun cdv A outer s0 H vs Q E hr h => ?_) : FnOk P w K mg base CX0 (2 + 1) f fd _ _)) (fun _ _ _ _ _ _ us hl => match us, hl with | [_, _, _, _, _], _ => rfl)
  · obtain ⟨g, r, q, a, p, kvs, os, need, m, f, x, rfl, _⟩ := h
    rfl
  · obtain ⟨g, r, q, a, p, kvs, os, need, m, f, x, rfl, PAt, W, hrs, hes, hrl, hneed, hcong, hx, h⟩ := h
    have hr1 : Room 1 _ := hr.mono (by decide)
    refine ⟨_, pss_cons (ps_setLc (i := 5) (own := [("plan", 8)]) (g := gName 8) rfl scBest.nd rfl rfl (sw_true rfl rfl rfl rfl) (pi_list (cl A3 hr1 pass0 (pa_cons (pv 2) (pa_cons (pe_callB call_len_seq (by rfl) hl PySem.boot_len (pa_cons (pe_fld (pv 0) rfl) pa_nil)) pa_nil)))) (blkOk_by (N := ["program", "all_runs", "reached", "more", "first", "plans", "costs", "least", "plan"]) (sc := defScope s_best_plan) (by decide +kernel))
        (fun _ _ _ _ _ => pg_name (i := 8) scBest.nd rfl (Or.inl rfl)) (fun _ _ _ _ _ => pts_one (pt_cmpR op_le (pe_ix (r := rIxL K) ix_list (cl A1 hr1 pass0 (pa_cons (pv 0) (pa_cons (pv 8) pa_nil))) pe_int (fun _ _ => rfl)) (pv 4) (nomark _))) (fun _ _ _ _ _ => pv 8))
      (pss_cons (ps_setLc (i := 6) (own := [("plan", 8)]) (g := gName 8) (tt := tYes) rfl scBest.nd rfl rfl (sw_true rfl rfl rfl rfl) (pi_list (pv 5)) (blkOk_by (N := ["program", "all_runs", "reached", "more", "first", "plans", "costs", "least", "plan"]) (sc := defScope s_best_plan) (by decide +kernel))
        (fun _ _ _ _ _ => pg_name (i := 8) scBest.nd rfl (Or.inl rfl)) (fun _ _ _ _ _ => pts_nil) (fun _ _ _ _ _ => pe_callB (r := rSum K) (cr_sum rfl) (by rfl) hsm boot_sum (pa_cons (cl A2 hr pass0 (pa_cons (pv 0) (pa_cons (pv 8) (pa_cons (pv 1) (pa_cons (pv 3) pa_nil))))) pa_nil)))
      (pss_cons (ps_set (i := 7) scBest.nd rfl (.inl rfl) (pe_callB (cr_min rfl) (by rfl) hmn boot_min (pa_cons (pv 6) pa_nil)))
      (pss_one (ps_ret (pe_op op_cat (pe_lst (pa_cons (pv 7) pa_nil)) (pe_ix ix_list (pv 5) (pe_bm PySem.F.plainAttrs_list PySem.F.slot_list_index PySem.F.type_list_index mt_index (pv 6) (pa_cons (pv 7) pa_nil)) (fun _ _ => rfl))))))), ?_⟩
    obtain ⟨gx, hg⟩ := PAt.obj
    have hsz : sizeLine = 16777216 := sizeLine_eq
    have hp10 := W.p10
    refine ⟨_, rfl, _, rfl, g, c.prog, gx, _, _, rfl, hg, T.prog.cl, T.prog.no _ (by decide), progF_p, _, _, rfl, .inl (SqL.of PAt.lp), ?_⟩
    rw [List.length_map, PAt.parts.len]
    refine ⟨q, need, p.parts.length, rfl, hneed, hp10, fun H1 v S1 hv0 hv => ?_⟩
    have epl : plansTo need p.parts.length = Vakepe.plans p := by
      rw [plansTo_congr hcong, plansTo_is]
      rfl
    have hplen := plansTo_len need p.parts.length
    have hpow : 3 ^ p.parts.length ≤ 59049 := Nat.pow_le_pow_right (n := 3) (by decide) hp10
    rw [epl] at hv hplen
    let ok : List Nat → Bool := fun l => decide (Vakepe.packSize p l 0 ≤ f)
    rw [best_is] at hx
    obtain ⟨as, h0, k1, k2⟩ := id hv
    refine ⟨v, rfl, ⟨_, SqL.of k1⟩, fun D hD => ?_⟩
    refine lc_list (K := K) (a := v) (xs := as.map V.ref) (fun i H2 => Same H1 H2 ∧ LLAt H2 D (((Vakepe.plans p).take i).filter ok))
      ⟨Same.new hD, .nil upd_same⟩ (fun i H2 _ z => SqL.of (z.1 _ _ k1)) ?_ ?_
    · rintro i y H2 hy ⟨s3, hD2⟩
      obtain ⟨b, hb, rfl⟩ := ref_of hy
      obtain ⟨l, hl2, hT⟩ := k2.get' hb
      have PO := plans_ok (List.mem_of_getElem? hl2)
      refine ⟨rfl, ?_⟩
      refine ⟨_, rfl, _, rfl, g, b, a, p, kvs, os, l, rfl, PAt.same (S1.trans s3), W, SqL.of (s3 _ _ hT), PO, fun H3 sz s4 hsz0 hsz1 => ?_⟩
      refine ⟨sz, _, _, _, rfl, rfl, SqL.of hsz1, atI_nat (j := 0) packSize_at, _, rfl, _, _, rfl, rfl, _, rfl, ?_⟩
      have ed : decide ((Vakepe.packSize p l 0 : Int) ≤ (f : Int)) = ok l := decide_eq_decide.mpr (by omega)
      rw [ed]
      cases yk : ok l with
      | false =>
        refine iteF ?_
        refine ⟨s3.trans s4, ?_⟩
        rw [filter_drop hl2 yk]
        exact hD2.same s4
      | true =>
        refine iteT ?_
        have nbD : b ≠ D := ne_of_none hT hD
        obtain ⟨xs, x1, x2, x3⟩ := (hD2.same s4).push (s4 _ _ (s3 _ _ hT)) nbD
        refine ⟨_, rfl, _, x1, ?_, fun b o z => ?_, ?_⟩
        · rw [x2]
          have h1 := List.length_filter_le ok ((Vakepe.plans p).take i)
          rw [List.length_take] at h1
          omega
        · rw [upd_ne (ne_of_none z hD)]
          exact s4 _ _ (s3 _ _ z)
        · rw [filter_keep hl2 yk]
          exact x3
    rintro H2 ⟨s3, hD2⟩
    rw [List.length_map, k2.len, List.take_length] at hD2
    have hD0 : H D = none := S1.free hD
    have s13 := S1.trans s3
    generalize hfl : (Vakepe.plans p).filter ok = fl at hD2
    have hx : fl.foldl (bstep (Vakepe.totalBy p (Vakepe.orders p) m)) none = some x := by rw [← hfl]; exact hx
    have hflen : fl.length ≤ 59049 := by
      have := List.length_filter_le ok (Vakepe.plans p)
      rw [hfl] at this
      omega
    have hfok : ∀ l ∈ fl, PlanOk p l := fun l hl => plans_ok (List.mem_filter.mp (hfl ▸ hl)).1
    obtain ⟨bs, g0, g1, g2⟩ := id hD2
    refine ⟨_, rfl, D, rfl, ⟨_, SqL.of g1⟩, fun U hU => ?_⟩
    refine lc_list (K := K) (a := D) (xs := bs.map V.ref) (fun i H3 => Same H2 H3 ∧ H3 U = some (.lst (nL ((fl.take i).map (Vakepe.totalBy p (Vakepe.orders p) m)))))
      ⟨Same.new hU, upd_same⟩ (fun i H3 _ z => SqL.of (z.1 _ _ g1)) ?_ ?_
    · rintro i y H3 hy ⟨s4, hU3⟩
      obtain ⟨b, hb, rfl⟩ := ref_of hy
      obtain ⟨l, hl2, hT⟩ := g2.get' hb
      refine ⟨rfl, ?_⟩
      dsimp only [tYes]
      rw [if_pos rfl]
      refine ⟨_, rfl, _, rfl, _, rfl, _, rfl, g, b, r, a, p, kvs, os, l, runsOf p, m, rfl, PAt.same (s13.trans s4), W, SqL.of (s4 _ _ hT), hfok l (List.mem_of_getElem? hl2), hrs.same (s13.trans s4), hes, hrl, fun H4 co s5 hco0 hco => ?_⟩
      refine ⟨co, _, rfl, SqL.of (hco.trans (by rw [nL_ints])), ?_⟩
      rw [nats_sum, costs_total]
      refine ⟨_, s5 _ _ hU3, ?_, fun b o z => ?_, ?_⟩
      · rw [nL_len, List.length_map, List.length_take]
        omega
      · rw [upd_ne (ne_of_none z hU)]
        exact s5 _ _ (s4 _ _ z)
      · rw [upd_same, take_snocG hl2, List.map_append, List.map_cons, List.map_nil, nL_snoc]
    rintro H3 ⟨s4, hU3⟩
    rw [List.length_map, g2.len, List.take_length] at hU3
    have hflp : 0 < fl.length := by
      cases fl with
      | nil => cases hx
      | cons _ _ => exact Nat.succ_pos _
    refine ⟨_, rfl, U, _, rfl, SqL.of (hU3.trans (by rw [nL_ints])), by rw [List.length_map, List.length_map]; exact hflp, fun M0 hM1 hM2 => ?_⟩
    obtain ⟨M, hMc, rfl⟩ := List.mem_map.mp hM1
    have hM : ∀ l ∈ fl, M ≤ Vakepe.totalBy p (Vakepe.orders p) m l := fun l hl => by
      have := hM2 (Vakepe.totalBy p (Vakepe.orders p) m l : Int) (List.mem_map.mpr ⟨_, List.mem_map.mpr ⟨l, hl, rfl⟩, rfl⟩)
      omega
    obtain ⟨j, hj, hj1⟩ := firstN hMc
    obtain ⟨l, hjl, hlM⟩ : ∃ l, fl[j]? = some l ∧ Vakepe.totalBy p (Vakepe.orders p) m l = M := by
      rw [List.getElem?_map] at hj
      cases y : fl[j]? with
      | none => rw [y] at hj; cases hj
      | some l => rw [y] at hj; exact ⟨l, rfl, Option.some.inj hj⟩
    have hxe : x = (M, l) := by
      have := bfirst hlM hjl hM (fun k y hk hy => hj1 k _ hk (by rw [List.getElem?_map, hy]; rfl)) (b := none) (fun _ z => by cases z)
      rw [hx] at this
      exact Option.some.inj this
    subst hxe
    obtain ⟨b, hb, hT⟩ := g2.get hjl
    refine ⟨_, rfl, by show 1 ≤ sizeLine; omega, fun q1 hq1 => ?_⟩
    have s5 := Same.new (o := .lst [.int (M : Int)]) hq1
    refine ⟨_, rfl, _, rfl, .inl ⟨rfl, _, SqL.of (s5 _ _ hU3)⟩, _, rfl, U, _, _, j, _, rfl, rfl, SqL.of (s5 _ _ hU3), rfl, nL_flat _, nL_at hj, by rw [eqV_nat]; exact decide_eq_true rfl, fun k y hk hy => ?_, ?_⟩
    · obtain ⟨z, hz, rfl⟩ := nL_of hy
      rw [eqV_nat]
      exact decide_eq_false (hj1 k z hk hz)
    refine ⟨D, _, _, _, rfl, rfl, SqL.of (s5 _ _ (s4 _ _ g1)), atI_nat (v := .ref b) (by rw [List.getElem?_map, hb]; rfl), ?_⟩
    refine ⟨q1, b, _, _, rfl, rfl, upd_same, s5 _ _ (s4 _ _ hT), ?_, fun o ho => ?_⟩
    · rw [nL_len, (hfok l (List.mem_of_getElem? hjl)).len]
      show 1 + p.parts.length ≤ sizeLine
      omega
    · have s6 := (s13.trans s4).trans (s5.trans (Same.new (o := .lst ([V.int (M : Int)] ++ nL l)) ho))
      have h1 : H o = none := by
        cases z : H o with
        | none => rfl
        | some u =>
          have := s5 _ _ ((s13.trans s4) _ _ z)
          rw [ho] at this
          cases this
      exact h _ o s6 h1 upd_same
end
end Pk
end
section
set_option Elab.async false
set_option linter.all false
set_option maxRecDepth 100000
set_option maxHeartbeats 4000000
namespace Pk
open PySem PySem.Spec PyProof.Rows L2
open Vakepa (Piece Part Prog Raw RawPart)
/-! ### what is held -/
def HeldAt (c : Cs) (G H : Hp) (hd : Addr) : Vakepe.Obj → Prop
  | none => ∃ dx l, H hd = some (.ins c.held dx (heldF .non l)) ∧ Same G H ∧ G hd = none
  | some z => ∃ (dx g l : Addr) (a : PA) (kvs : List (Key × V)) (os : List Addr), H hd = some (.ins c.held dx (heldF (.ref g) l)) ∧ Same G H ∧ G hd = none ∧ (∃ G0 : Hp, Same G0 G ∧ G0 l = none ∧ ProgAt c G0 g a z.p kvs os) ∧ WF z.p ∧ G l = some (.lst (nL z.l)) ∧ PlanOk z.p z.l
theorem HeldAt.move {c : Cs} {G H H' : Hp} {hd : Addr} (e : H' hd = H hd) (s : Same G H') : ∀ {o : Vakepe.Obj}, HeldAt c G H hd o → HeldAt c G H' hd o
  | none, ⟨dx, l, h, _, h3⟩ => ⟨dx, l, e.trans h, s, h3⟩
  | some z, ⟨dx, g, l, a, kvs, os, h1, _, h3⟩ => ⟨dx, g, l, a, kvs, os, e.trans h1, s, h3⟩
theorem HeldAt.obj {c : Cs} {G H : Hp} {hd : Addr} : ∀ {o : Vakepe.Obj}, HeldAt c G H hd o → ∃ dx p l, H hd = some (.ins c.held dx (heldF p l))
  | none, ⟨dx, l, h, _⟩ => ⟨dx, _, l, h⟩
  | some z, ⟨dx, g, l, a, kvs, os, h1, _⟩ => ⟨dx, _, l, h1⟩
theorem HeldAt.sub {c : Cs} {G H : Hp} {hd : Addr} : ∀ {o : Vakepe.Obj}, HeldAt c G H hd o → Same G H ∧ G hd = none
  | none, ⟨_, _, _, h⟩ => h
  | some z, ⟨_, _, _, _, _, _, _, h2, h3, _⟩ => ⟨h2, h3⟩
theorem HeldAt.same {c : Cs} {G H H' : Hp} {hd : Addr} {o : Vakepe.Obj} (s : Same H H') (h : HeldAt c G H hd o) : HeldAt c G H' hd o := by
  obtain ⟨dx, p, l, e⟩ := h.obj
  exact h.move ((s _ _ e).trans e.symm) (h.sub.1.trans s)
/-- what is read of a held program and its plan -/
theorem HeldAt.all {c : Cs} {G H : Hp} {hd : Addr} {z : Vakepe.Held} (h : HeldAt c G H hd (some z)) : ∃ (dx g l : Addr) (a : PA) (kvs : List (Key × V)) (os : List Addr), H hd = some (.ins c.held dx (heldF (.ref g) l)) ∧ Same G H ∧ G hd = none ∧ ProgAt c G g a z.p kvs os ∧ WF z.p ∧ G l = some (.lst (nL z.l)) ∧ PlanOk z.p z.l := by
  obtain ⟨dx, g, l, a, kvs, os, h1, h2, h3, ⟨G0, s0, _, PAt⟩, h5⟩ := h
  exact ⟨dx, g, l, a, kvs, os, h1, h2, h3, PAt.same s0, h5⟩
/-- all but the held object and what is owned by it -/
def FrH (hd : Addr) (G H H' : Hp) : Prop := ∀ b o, H b = some o → b ≠ hd → G b = none → H' b = some o
theorem FrH.of {hd : Addr} {G H H' : Hp} (s : Same H H') : FrH hd G H H' := fun b o e _ _ => s b o e
theorem heldF_p {p : V} {l : Addr} : (heldF p l).lookup ("program" : Str) = some p := by kernel_rfl
theorem heldF_l {p : V} {l : Addr} : (heldF p l).lookup ("plan" : Str) = some (.ref l) := by kernel_rfl
theorem heldF_putp {p q : V} {l : Addr} : putF "program" q (heldF p l) = heldF q l := by kernel_rfl
theorem heldF_putl {p : V} {l m : Addr} : putF "plan" (.ref m) (heldF p l) = heldF p m := by kernel_rfl
def zeros (p : Prog) : List Nat := p.parts.map fun _ => 0
theorem zeros_ok (p : Prog) : PlanOk p (zeros p) := ⟨List.length_map .., fun n hn => by
  obtain ⟨_, _, e⟩ := List.mem_map.mp hn
  rw [← e]
  decide⟩
section
variable {P : Program} {w : World} {K : PySem.W.Frag} {mg : Str → Option Value} {base : Heap} {c : Cs}
def spHeldI (c : Cs) : Sp := fun vs H Q _ => ∃ (p dx : Addr), vs = [.ref p] ∧ H p = some (.ins c.held dx []) ∧
  ∀ (H' : Hp) (l : Addr), H' p = some (.ins c.held dx (heldF .non l)) → (∀ b o, H b = some o → b ≠ p → H' b = some o) → Q .non H'
theorem scHeldI : FnScope ["self"] ["self"] (defScope s_Held_init) := ⟨rfl, rfl, rfl, by decide +kernel, rfl, by decide +kernel, by decide +kernel⟩
theorem ok_heldI (T : CsT K c) (D : InitAt K mg c.held "Held" "Held.__init__" s_Held_init) : OkI P w K mg base CX0 1 c.held "Held" ["self"] (spHeldI c) := by
  refine OkI.mk' D (fun f fd F => F.ok scHeldI (fun vs H Q E h => ?_) (fun cdv A outer s H vs Q E hr h => ?_)) (fun _ _ _ _ _ _ us hl => match us, hl with | [_], _ => rfl)
  · obtain ⟨p, dx, rfl, _⟩ := h
    rfl
  · obtain ⟨p, dx, rfl, hp, h⟩ := h
    refine ⟨_, pss_cons (ps_fld (pv 0) pe_non rfl) (pss_one (ps_fld (pv 0) (pe_lst pa_nil) rfl)), ?_⟩
    refine ⟨_, rfl, p, c.held, dx, _, rfl, hp, T.held.cl, T.held.no _ (by decide), (by decide), ?_⟩
    refine ⟨Nat.zero_le _, fun l hl => ?_⟩
    have npl : p ≠ l := ne_of_none upd_same hl
    refine ⟨_, rfl, p, c.held, dx, _, rfl, (upd_ne npl).trans upd_same, T.held.cl, T.held.no _ (by decide), (by show 1 < 1000; decide), ?_⟩
    rw [upd_ne (Ne.symm npl)] at hl
    refine h _ l (upd_same.trans (congrArg (fun q => some (HO.ins c.held dx q)) (by kernel_rfl))) (fun b o e n => ?_)
    rw [upd_ne n, upd_ne (ne_of_none e hl), upd_ne n]
    exact e
end
end Pk
end
section
set_option Elab.async false
set_option linter.all false
set_option maxRecDepth 100000
set_option maxHeartbeats 4000000
namespace Pk
open PySem PySem.Spec PyProof.Rows L2
open Vakepa (Piece Part Prog Raw RawPart)
theorem fxd_code {a b : V} : (fxd a b).lookup ("code" : Str) = some a := by kernel_rfl
theorem fxd_place {a b : V} : (fxd a b).lookup ("place" : Str) = some b := by kernel_rfl
theorem zeros_flat (p : Prog) : (List.replicate p.parts.length [V.int 0]).flatten = nL (zeros p) := by
  unfold nL zeros
  rw [List.map_map]
  induction p.parts with
  | nil => rfl
  | cons a r ih =>
    rw [List.length_cons, List.replicate_succ, List.flatten_cons, ih]
    rfl
section
variable {P : Program} {w : World} {K : PySem.W.Frag} {mg : Str → Option Value} {base : Heap} {c : Cs}
/-! ### load_answer -/
/-- an answer: the object behind it, the list given back -/
def ansEnds (c : Cs) (hd t : Addr) (G H : Hp) (o : Vakepe.Obj) (r : List Int) (Q : VK) : Prop := ∀ (H' G' : Hp) (q : Addr), FrH hd G H H' → HeldAt c G' H' hd o → (∀ b u, G' b = some u → (∃ v, G b = some v) ∨ H b = none ∨ b = t) → H q = none → H' q = some (.lst (r.map V.int)) → Q (.ref q) H'
def loadRes (o : Vakepe.Obj) (b : By) : Vakepe.Obj × List Int := match Vakepa.read b with
  | .ok p => (some ⟨p, zeros p⟩, [1, (p.sets.length : Int), (p.parts.length : Int), (p.starts.length : Int), (Vakepa.total p : Int)])
  | .error f => (o, [0, (f.code : Int), (f.place : Int)])
def spLoadA (K : PySem.W.Frag) (c : Cs) : Sp := fun vs H Q _ => ∃ (hd t : Addr) (o : Vakepe.Obj) (b : By) (G : Hp), vs = [.ref hd, .ref t] ∧ HeldAt c G H hd o ∧ SqL K H t (bL b) ∧ b.length ≤ 10000 ∧ ansEnds c hd t G H (loadRes o b).1 (loadRes o b).2 Q
theorem scLoadA : FnScope ["held", "text", "program", "e"] ["held", "text"] (defScope s_load_answer) := ⟨rfl, rfl, rfl, by decide +kernel, rfl, by decide +kernel, by decide +kernel⟩
def suiteF (C : Addr) : Addr → Value → Option Addr → TS := fun a cls d => tRet (tLst (tCons (tC (.int 0)) (tCons (tXf a cls d C "code" (tVar 3)) (tCons (tXf a cls d C "place" (tVar 3)) tNil))))
theorem ok_loadA {fF : Addr} (T : RdT K mg c fF) (D : DefAt K mg "load_answer" s_load_answer) (A1 : Ok P w K mg base (L2.CX P w) 18 "read_program" ["text"] (spRead K c)) (A2 : Ok P w K mg base CX0 1 "assignment_count" ["program"] (spCount c)) :
    Ok P w K mg base CX0 19 "load_answer" ["held", "text"] (spLoadA K c) := by
  obtain ⟨fR, fdR, GR, gR, kR, bR⟩ := A1.ex
  refine Ok.mk' D (fun f fd F => F.ok scLoadA (fun vs H Q E h => ?_) (fun cdv A outer s0 H vs Q E hr h => ?_)) (fun _ _ _ _ _ _ us hl => match us, hl with | [_, _], _ => rfl)
  · obtain ⟨hd, t, o, b, G, rfl, _⟩ := h
    rfl
  · obtain ⟨hd, t, o, b, G, rfl, HA, hs, hlen, h⟩ := h
    have hr1 : Room 1 _ := hr.mono (by decide)
    have XF : XfC K c.fault := ⟨T.ft.ga, T.ft.gg, T.ft.exC, T.ft.hdC⟩
    refine ⟨_, pss_cons (ps_try_as (i := 3) (tb := fun W => tAsg (tCallS (spRead K c) (WE W) (tCons (tVar 1) tNil)) (gName 2)) (ts := suiteF c.fault) (Wout := fun _ _ _ _ => False) rfl rfl scLoadA.nd rfl rfl ⟨rfl, by decide, Or.inl T.ft.gC⟩ takes0
        (fun W pn xe tk _ => pss_one (ps_set (i := 2) scLoadA.nd rfl (Or.inl rfl) (by exact (pe_callS GR hr rfl gR kR bR (fun σ => passAt tk σ) (by exact (pa_cons (pv 1) pa_nil))))))
        (fun a oe cls d pn hz hf => pss_one (ps_ret (by exact (pe_lst (pa_cons pe_int (pa_cons (pe_xf XF T.ft.noC hz hf (pv 3)) (pa_cons (pe_xf XF T.ft.noP hz hf (pv 3)) pa_nil))))))))
      (pss_cons (ps_fld (pv 0) (pv 2) rfl)
      (pss_cons (ps_fld (pv 0) (pe_op op_rep (pe_lst (pa_cons pe_int pa_nil)) (pe_callB call_len_seq (by rfl) T.len PySem.boot_len (pa_cons (pe_fld (pv 2) rfl) pa_nil))) rfl)
      (pss_one (ps_ret (pe_lst (pa_cons pe_int (pa_cons (pe_callB call_lenD (by rfl) T.len PySem.boot_len (pa_cons (pe_fld (pv 2) rfl) pa_nil)) (pa_cons (pe_callB call_len_seq (by rfl) T.len PySem.boot_len (pa_cons (pe_fld (pv 2) rfl) pa_nil)) (pa_cons (pe_callB call_len_seq (by rfl) T.len PySem.boot_len (pa_cons (pe_fld (pv 2) rfl) pa_nil)) (pa_cons (cl A2 hr1 pass0 (pa_cons (pv 2) pa_nil)) pa_nil)))))))))), ?_⟩
    have hsz : sizeLine = 16777216 := sizeLine_eq
    obtain ⟨dx, p0, l0, ho⟩ := HA.obj
    refine ⟨_, rfl, t, b, rfl, hs, hlen, ?_⟩
    unfold readEnds
    unfold loadRes at h
    cases e : Vakepa.read b with
    | error f =>
      rw [e] at h
      intro d H1 S1 hd1
      refine ⟨true, T.ft.te, fun _ a0 _ => ?_, fun q => Bool.noConfusion q⟩
      refine ⟨_, rfl, rfl, rfl, d, _, _, rfl, hd1, fxd_code, _, rfl, rfl, rfl, d, _, _, rfl, hd1, fxd_place, by show 3 ≤ sizeLine; omega, fun q hq => ?_⟩
      exact h _ G q (FrH.of (S1.trans (Same.new hq))) (HA.same (S1.trans (Same.new hq))) (fun b u z => .inl ⟨_, z⟩) (S1.free hq) upd_same
    | ok p =>
      rw [e] at h
      intro H1 Gp g a kvs os S1 SG hold PAt W
      obtain ⟨gx, hg⟩ := PAt.obj
      have ho1 := S1 _ _ ho
      have Gh : Gp hd = none := hold _ _ ho
      have ngh : g ≠ hd := ne_of_none hg Gh
      refine ⟨_, rfl, _, rfl, hd, c.held, dx, _, rfl, ho1, T.cs.held.cl, T.cs.held.no _ (by decide), (by show 2 < 1000; decide), ?_⟩
      rw [heldF_putp]
      refine ⟨by show 1 ≤ sizeLine; omega, fun q1 hq1 => ?_⟩
      have nhq1 : hd ≠ q1 := ne_of_none upd_same hq1
      have up1 : ∀ {b : Addr} {u : HO}, Gp b = some u → upd (upd H1 hd (.ins c.held dx (heldF (.ref g) l0))) q1 (.lst [.int 0]) b = some u := fun {b u} z => by
        have z1 : upd H1 hd (.ins c.held dx (heldF (.ref g) l0)) b = some u := by
          rw [upd_ne (ne_of_none z Gh)]
          exact SG _ _ z
        rw [upd_ne (ne_of_none z1 hq1)]
        exact z1
      have hp10 := W.p10
      have hle : ((os.map V.ref).length : Int) = (p.parts.length : Int) := by rw [List.length_map, PAt.parts.len]
      refine ⟨_, rfl, g, c.prog, gx, _, _, rfl, up1 hg, T.cs.prog.cl, T.cs.prog.no _ (by decide), progF_p, _, _, rfl, .inl (SqL.of (up1 PAt.lp)), q1, _, _, rfl, rfl, upd_same, ?_, ?_, ?_, fun q hq => ?_⟩
      · rw [hle]; omega
      · rw [hle]; omega
      · rw [hle, Int.toNat_natCast]
        show 1 * p.parts.length ≤ sizeLine
        omega
      rw [hle, Int.toNat_natCast, zeros_flat]
      have nhq : hd ≠ q := ne_of_none ((upd_ne nhq1).trans upd_same) hq
      refine ⟨_, rfl, hd, c.held, dx, _, rfl, (upd_ne nhq).trans ((upd_ne nhq1).trans upd_same), T.cs.held.cl, T.cs.held.no _ (by decide), (by show 2 < 1000; decide), ?_⟩
      rw [heldF_putl]
      have up2 : Same Gp (upd (upd (upd (upd H1 hd (.ins c.held dx (heldF (.ref g) l0))) q1 (.lst [.int 0])) q (.lst (nL (zeros p)))) hd (.ins c.held dx (heldF (.ref g) q))) := fun b u z => by
        rw [upd_ne (ne_of_none z Gh), upd_ne (ne_of_none (up1 z) hq)]
        exact up1 z
      have fr : FrH hd (fun _ => none) H (upd (upd (upd (upd H1 hd (.ins c.held dx (heldF (.ref g) l0))) q1 (.lst [.int 0])) q (.lst (nL (zeros p)))) hd (.ins c.held dx (heldF (.ref g) q))) := fun b u z n _ => by
        have z1 : upd H1 hd (.ins c.held dx (heldF (.ref g) l0)) b = some u := by
          rw [upd_ne n]
          exact S1 _ _ z
        have z2 : upd (upd H1 hd (.ins c.held dx (heldF (.ref g) l0))) q1 (.lst [.int 0]) b = some u := by
          rw [upd_ne (ne_of_none z1 hq1)]
          exact z1
        rw [upd_ne n, upd_ne (ne_of_none z2 hq)]
        exact z2
      refine ⟨_, rfl, g, c.prog, gx, _, _, rfl, up2 _ _ hg, T.cs.prog.cl, T.cs.prog.no _ (by decide), progF_s, a.ds, kvs, rfl, up2 _ _ PAt.ds, _, rfl, g, c.prog, gx, _, _, rfl, up2 _ _ hg, T.cs.prog.cl, T.cs.prog.no _ (by decide), progF_p, _, _, rfl, .inl (SqL.of (up2 _ _ PAt.lp)),
        _, rfl, g, c.prog, gx, _, _, rfl, up2 _ _ hg, T.cs.prog.cl, T.cs.prog.no _ (by decide), progF_e, _, _, rfl, .inl (SqL.of (up2 _ _ PAt.le)), _, rfl, g, a, p, kvs, os, rfl, PAt.same up2, W, by show 5 ≤ sizeLine; omega, fun r hr => ?_⟩
      have nhr : hd ≠ r := ne_of_none upd_same hr
      have s3 := Same.new (o := .lst [.int 1, .int (kvs.length : Int), .int ((os.map V.ref).length : Int), .int ((p.starts.map fun (k : Nat) => V.int (k : Int)).length : Int), .int (Vakepa.total p : Int)]) hr
      have hq0 : H q = none := by
        cases z : H q with
        | none => rfl
        | some u =>
          have z1 : upd (upd H1 hd (.ins c.held dx (heldF (.ref g) l0))) q1 (.lst [.int 0]) q = some u := by
            have z2 : upd H1 hd (.ins c.held dx (heldF (.ref g) l0)) q = some u := by
              rw [upd_ne (Ne.symm nhq)]
              exact S1 _ _ z
            rw [upd_ne (ne_of_none z2 hq1)]
            exact z2
          rw [hq] at z1
          cases z1
      have Gq : Gp q = none := by
        cases z : Gp q with
        | none => rfl
        | some u =>
          have := up1 z
          rw [hq] at this
          cases this
      have sG := Same.new (o := .lst (nL (zeros p))) Gq
      refine h _ (upd Gp q (.lst (nL (zeros p)))) r (fun b u z n _ => s3 _ _ (fr b u z n rfl)) ?_ (fun b u z => ?_) ?_ ?_
      · refine ⟨dx, g, q, a, kvs, os, (upd_ne nhr).trans upd_same, fun b u z => ?_, (upd_ne nhq).trans Gh, ⟨Gp, sG, Gq, PAt⟩, W, upd_same, zeros_ok p⟩
        by_cases e : b = q
        · subst e
          rw [upd_same] at z
          rw [← z]
          exact s3 _ _ ((upd_ne (Ne.symm nhq)).trans upd_same)
        · rw [upd_ne e] at z
          exact s3 _ _ (up2 _ _ z)
      · by_cases e : b = q
        · rw [e]
          exact .inr (.inl hq0)
        · rw [upd_ne e] at z
          cases y : H b with
          | none => exact .inr (.inl rfl)
          | some v =>
            rw [hold _ _ y] at z
            cases z
      · cases z : H r with
        | none => rfl
        | some u =>
          have := fr r u z (Ne.symm nhr) rfl
          rw [hr] at this
          cases this
      · rw [upd_same, List.length_map, List.length_map, PAt.sets.len, PAt.parts.len]
        rfl
end
end Pk
end
section
set_option Elab.async false
set_option linter.all false
set_option maxRecDepth 100000
set_option maxHeartbeats 4000000
namespace Pk
open PySem PySem.Spec PyProof.Rows L2
open Vakepa (Piece Part Prog Raw RawPart)
def iL (l : List Int) : List V := l.map V.int
theorem iL_len (l : List Int) : (iL l).length = l.length := List.length_map ..
theorem iL_get {l : List Int} {i : Nat} {x : V} (h : (iL l)[i]? = some x) : ∃ n, l[i]? = some n ∧ x = .int n := by
  unfold iL at h
  rw [List.getElem?_map] at h
  cases z : l[i]? with
  | none => rw [z] at h; cases h
  | some k => rw [z] at h; exact ⟨k, rfl, (Option.some.inj h).symm⟩
def okPack (n : Int) : Bool := decide (0 ≤ n ∧ n < 4)
theorem index_none {n : Int} {k : Nat} : (VakepBase.index n k).isNone = true ↔ ¬ (0 ≤ n ∧ n < (k : Int)) := by
  unfold VakepBase.index
  by_cases h : 0 ≤ n ∧ n < (k : Int)
  · rw [if_pos h]
    exact ⟨fun z => by simp at z, fun z => absurd h z⟩
  · rw [if_neg h]
    exact ⟨fun _ => h, fun _ => rfl⟩
def packsRes (z : Vakepe.Held) (l : List Int) : Vakepe.Obj × List Int := ((Vakepe.packsCall z l).1, VakepeNeutral.encode (Vakepe.packsCall z l).2)
theorem packs_bad {z : Vakepe.Held} {l : List Int} (h : l.length ≠ z.p.parts.length ∨ ∃ n ∈ l, ¬ (0 ≤ n ∧ n < 4)) : packsRes z l = (some z, [-6]) := by
  unfold packsRes Vakepe.packsCall
  rw [if_pos]
  · rfl
  · rcases h with h | ⟨n, h1, h2⟩
    · exact .inl h
    · exact .inr (List.any_eq_true.mpr ⟨n, h1, index_none.mpr h2⟩)
theorem packs_good {z : Vakepe.Held} {l : List Int} (h1 : l.length = z.p.parts.length) (h2 : ∀ n ∈ l, 0 ≤ n ∧ n < 4) : packsRes z l = (some ⟨z.p, l.map fun n => n.toNat⟩, 1 :: (Vakepe.sizesOf z.p (l.map fun n => n.toNat)).map fun (n : Nat) => (n : Int)) := by
  unfold packsRes Vakepe.packsCall
  rw [if_neg]
  · rfl
  · rintro (q | q)
    · exact q h1
    · obtain ⟨n, hn, e⟩ := List.any_eq_true.mp q
      exact index_none.mp e (h2 n hn)
theorem iL_nat {l : List Int} (h : ∀ n ∈ l, 0 ≤ n ∧ n < 4) : iL l = nL (l.map fun n => n.toNat) := by
  unfold iL nL
  rw [List.map_map]
  refine List.map_congr_left fun n hn => ?_
  have := h n hn
  show V.int n = V.int ((n.toNat : Nat) : Int)
  rw [Int.toNat_of_nonneg this.1]
section
variable {P : Program} {w : World} {K : PySem.W.Frag} {mg : Str → Option Value} {base : Heap} {c : Cs}
def spIsOne : Sp := fun vs H Q _ => ∃ (i n : Int), vs = [.int i, .int n] ∧ Q (.bl (decide (0 ≤ i ∧ i < n))) H
theorem scIsOne : FnScope ["number", "count"] ["number", "count"] (defScope s_is_one_of) := ⟨rfl, rfl, rfl, by decide +kernel, rfl, by decide +kernel, by decide +kernel⟩
theorem ok_isOne (D : DefAt K mg "is_one_of" s_is_one_of) : Ok P w K mg base CX0 1 "is_one_of" ["number", "count"] spIsOne := by
  refine Ok.mk' D (fun f fd F => F.ok scIsOne (fun vs H Q E h => ?_) (fun cdv A outer s H vs Q E hr h => ?_)) (fun _ _ _ _ _ _ us hl => match us, hl with | [_, _], _ => rfl)
  · obtain ⟨i, n, rfl, _⟩ := h
    rfl
  · obtain ⟨i, n, rfl, h⟩ := h
    refine ⟨_, pss_one (ps_ret (pe_chain op_le op_lt pe_int (pv 0) (pv 1))), ?_⟩
    refine ⟨_, rfl, _, _, rfl, rfl, _, rfl, ?_⟩
    refine ited (fun h1 => ⟨_, rfl, _, _, rfl, rfl, qbl h ?_⟩) (fun h1 => qbl h ?_)
    · exact decide_eq_decide.mpr (by omega)
    · exact decide_eq_false (by omega)
def spIsCost : Sp := fun vs H Q _ => ∃ (i : Int), vs = [.int i] ∧ Q (.bl (decide (0 ≤ i ∧ i ≤ 1000))) H
theorem scIsCost : FnScope ["number"] ["number"] (defScope s_is_cost) := ⟨rfl, rfl, rfl, by decide +kernel, rfl, by decide +kernel, by decide +kernel⟩
theorem ok_isCost (g1 : GI mg "GREATEST_COST" 1000) (D : DefAt K mg "is_cost" s_is_cost) : Ok P w K mg base CX0 1 "is_cost" ["number"] spIsCost := by
  refine Ok.mk' D (fun f fd F => F.ok scIsCost (fun vs H Q E h => ?_) (fun cdv A outer s H vs Q E hr h => ?_)) (fun _ _ _ _ _ _ us hl => match us, hl with | [_], _ => rfl)
  · obtain ⟨i, rfl, _⟩ := h
    rfl
  · obtain ⟨i, rfl, h⟩ := h
    refine ⟨_, pss_one (ps_ret (pe_chain op_le op_le pe_int (pv 0) (gi g1))), ?_⟩
    refine ⟨_, rfl, _, _, rfl, rfl, _, rfl, ?_⟩
    refine ited (fun h1 => ⟨_, _, rfl, rfl, qbl h ?_⟩) (fun h1 => qbl h ?_)
    · exact decide_eq_decide.mpr (by omega)
    · exact decide_eq_false (by omega)
def spPacksA (c : Cs) : Sp := fun vs H Q _ => ∃ (hd t : Addr) (z : Vakepe.Held) (l : List Int) (G : Hp), vs = [.ref hd, .ref t] ∧ HeldAt c G H hd (some z) ∧ H t = some (.lst (iL l)) ∧ ansEnds c hd t G H (packsRes z l).1 (packsRes z l).2 Q
theorem scPacksA : FnScope ["held", "plan", "pack"] ["held", "plan"] (defScope s_packs_answer) := ⟨rfl, rfl, rfl, by decide +kernel, rfl, by decide +kernel, by decide +kernel⟩
theorem ok_packsA (T : CsT K c) (hl : mg "len" = none) (hli : mg "list" = none) (g4 : GI mg "PACKS" 4) (g6 : GI mg "BAD_PACK" (-6)) (D : DefAt K mg "packs_answer" s_packs_answer) (A0 : Ok P w K mg base CX0 1 "is_one_of" ["number", "count"] spIsOne) (A1 : Ok P w K mg base CX0 1 "pack_sizes" ["program", "plan"] (spSizes K c)) :
    Ok P w K mg base CX0 2 "packs_answer" ["held", "plan"] (spPacksA c) := by
  refine Ok.mk' D (fun f fd F => F.ok scPacksA (fun vs H Q E h => ?_) (fun cdv A outer s0 H vs Q E hr h => ?_)) (fun _ _ _ _ _ _ us hl => match us, hl with | [_, _], _ => rfl)
  · obtain ⟨hd, t, z, l, G, rfl, _⟩ := h
    rfl
  · obtain ⟨hd, t, z, l, G, rfl, HA, ht, h⟩ := h
    refine ⟨_, pss_cons (ps_if (pt_cmpR op_ne (pe_callB call_len_seq (by rfl) hl PySem.boot_len (pa_cons (pv 1) pa_nil)) (pe_callB call_len_seq (by rfl) hl PySem.boot_len (pa_cons (pe_fld (pe_fld (pv 0) rfl) rfl) pa_nil)) (nomark _)) (pss_one (ps_ret (pe_lst (pa_cons (gi g6) pa_nil)))) pss_nil)
      (pss_cons (ps_for PassesOwn.never rfl (pi_list (pv 1)) (pg_name (i := 2) scPacksA.nd rfl (.inl rfl))
        (pss_one (ps_if (pt_not (pt_val (cl A0 hr pass0 (pa_cons (pv 2) (pa_cons (gi g4) pa_nil))))) (pss_one (ps_ret (pe_lst (pa_cons (gi g6) pa_nil)))) pss_nil)))
      (pss_cons (ps_fld (pv 0) (pe_callTy call_list_of (by rfl) hli boot_list (pa_cons (pv 1) pa_nil)) rfl)
      (pss_one (ps_ret (pe_op op_cat (pe_lst (pa_cons pe_int pa_nil)) (cl A1 hr pass0 (pa_cons (pe_fld (pv 0) rfl) (pa_cons (pe_fld (pv 0) rfl) pa_nil)))))))), ?_⟩
    have hsz : sizeLine = 16777216 := sizeLine_eq
    obtain ⟨dx, g, l0, a, kvs, os, h1, h2, h3, ⟨G0, sG0, _, PAt0⟩, W, h6, h7⟩ := id HA
    have PAt := PAt0.same sG0
    obtain ⟨gx, hg⟩ := PAt.obj
    have hg' := h2 _ _ hg
    refine ⟨_, rfl, _, _, rfl, .inl (SqL.of ht), _, rfl, hd, c.held, dx, _, _, rfl, h1, T.held.cl, T.held.no _ (by decide), heldF_p, g, c.prog, gx, _, _, rfl, hg', T.prog.cl, T.prog.no _ (by decide), progF_p, _, _, rfl, .inl (SqL.of (h2 _ _ PAt.lp)), rfl, _, rfl, ?_⟩
    rw [iL_len, List.length_map, PAt.parts.len]
    refine itnd (fun q => ?_) (fun q => ?_)
    · have ne : l.length ≠ z.p.parts.length := fun y => q (by rw [y])
      rw [packs_bad (.inl ne)] at h
      exact ⟨by show 1 ≤ sizeLine; omega, fun p hp => h _ G p (FrH.of (Same.new hp)) (HA.same (Same.new hp)) (fun _ _ y => .inl ⟨_, y⟩) hp upd_same⟩
    · have el : l.length = z.p.parts.length := by have y : (l.length : Int) = (z.p.parts.length : Int) := V.int.inj q; omega
      refine ⟨_, rfl, t, rfl, ⟨_, SqL.of ht⟩, ?_⟩
      refine for_list (Pv := fun i σ H' => ∃ v2 : Option V, σ = [some (.ref hd), some (.ref t), v2] ∧ H' = H ∧ ∀ n ∈ l.take i, 0 ≤ n ∧ n < 4)
        ⟨none, rfl, rfl, fun n hn => (by cases hn)⟩ (fun i σ H' _ ⟨_, _, e, _⟩ => by rw [e]; exact SqL.of ht) ?_ ?_
      · rintro i x σ H1 hx ⟨v2, rfl, rfl, hok⟩
        obtain ⟨n, hn, rfl⟩ := iL_get hx
        refine ⟨_, rfl, n, 4, rfl, _, rfl, ?_⟩
        by_cases good : 0 ≤ n ∧ n < 4
        · rw [decide_eq_true good]
          refine iteF ?_
          refine ⟨some (.int n), rfl, rfl, fun m hm => ?_⟩
          rw [take_snocG hn] at hm
          rcases List.mem_append.mp hm with y | y
          · exact hok m y
          · rw [List.mem_singleton.mp y]
            exact good
        · rw [decide_eq_false good]
          refine iteT ?_
          rw [packs_bad (.inr ⟨n, List.mem_of_getElem? hn, good⟩)] at h
          exact ⟨by show 1 ≤ sizeLine; omega, fun p hp => h _ G p (FrH.of (Same.new hp)) (HA.same (Same.new hp)) (fun _ _ y => .inl ⟨_, y⟩) hp upd_same⟩
      · rintro σ H1 ⟨v2, rfl, rfl, hok⟩
        rw [iL_len, List.take_length] at hok
        rw [packs_good el hok] at h
        have PO : PlanOk z.p (l.map fun n => n.toNat) := ⟨by rw [List.length_map]; exact el, fun n hn => by
          obtain ⟨m, hm, e⟩ := List.mem_map.mp hn
          have := hok m hm
          omega⟩
        have enL : iL l = nL (l.map fun n => n.toNat) := iL_nat hok
        refine ⟨_, rfl, t, _, rfl, .inl (SqL.of ht), fun q0 hq0 => ?_⟩
        rw [enL]
        have sN := Same.new (o := .lst (nL (l.map fun n => n.toNat))) hq0
        have nhq0 : hd ≠ q0 := ne_of_none h1 hq0
        have Gq0 : G q0 = none := h2.free hq0
        refine ⟨_, rfl, hd, c.held, dx, _, rfl, sN _ _ h1, T.held.cl, T.held.no _ (by decide), (by show 2 < 1000; decide), ?_⟩
        rw [heldF_putl]
        have s2 : Same (upd G q0 (.lst (nL (l.map fun n => n.toNat)))) (upd (upd H1 q0 (.lst (nL (l.map fun n => n.toNat)))) hd (.ins c.held dx (heldF (.ref g) q0))) := fun b u y => by
          by_cases e : b = q0
          · subst e
            rw [upd_ne (Ne.symm nhq0), upd_same]
            rw [upd_same] at y
            exact y
          · rw [upd_ne e] at y
            rw [upd_ne (ne_of_none y h3)]
            exact sN _ _ (h2 _ _ y)
        have sG : Same G (upd G q0 (.lst (nL (l.map fun n => n.toNat)))) := Same.new Gq0
        refine ⟨by show 1 ≤ sizeLine; omega, fun q1 hq1 => ?_⟩
        have s3 := Same.new (o := .lst [.int 1]) hq1
        have nhq1 : hd ≠ q1 := ne_of_none upd_same hq1
        have s23 := s2.trans s3
        refine ⟨_, rfl, hd, c.held, dx, _, _, rfl, s3 _ _ upd_same, T.held.cl, T.held.no _ (by decide), heldF_p, _, rfl, hd, c.held, dx, _, _, rfl, s3 _ _ upd_same, T.held.cl, T.held.no _ (by decide), heldF_l, g, q0, a, z.p, kvs, os, _, rfl, PAt.same (sG.trans s23), W, SqL.of (s23 _ _ upd_same), PO, fun H2 q2 s4 hq2 hq3 => ?_⟩
        refine ⟨q1, q2, _, _, rfl, rfl, s4 _ _ upd_same, hq3, ?_, fun r hr => ?_⟩
        · rw [nL_len]
          have : (Vakepe.sizesOf z.p (l.map fun n => n.toNat)).length = 4 := sizesTo_len z.p _ z.p.parts.length
          rw [this]
          show 1 + 4 ≤ sizeLine
          omega
        · have s5 := Same.new (o := .lst ([V.int 1] ++ nL (Vakepe.sizesOf z.p (l.map fun n => n.toNat)))) hr
          have up : ∀ b u, H1 b = some u → b ≠ hd → upd H2 r (.lst ([V.int 1] ++ nL (Vakepe.sizesOf z.p (l.map fun n => n.toNat)))) b = some u := fun b u y n => s5 _ _ (s4 _ _ (s3 _ _ ((upd_ne n).trans (sN _ _ y))))
          refine h _ (upd G q0 (.lst (nL (l.map fun n => n.toNat)))) r (fun b u y n _ => up b u y n) ⟨dx, g, q0, a, kvs, os, s5 _ _ (s4 _ _ (s3 _ _ upd_same)), fun b u y => s5 _ _ (s4 _ _ (s23 _ _ y)), (upd_ne nhq0).trans h3, ⟨G0, sG0.trans sG, sG0.free Gq0, PAt0⟩, W, upd_same, PO⟩ (fun b u y => ?_) ?_ ?_
          · by_cases e : b = q0
            · rw [e]
              exact .inr (.inl hq0)
            · rw [upd_ne e] at y
              exact .inl ⟨_, y⟩
          · cases y : H1 r with
            | none => rfl
            | some u =>
              by_cases e : r = hd
              · have e2 := s4 _ _ (s3 _ _ upd_same)
                rw [e, e2] at hr
                cases hr
              · have := s4 _ _ (s3 _ _ ((upd_ne e).trans (sN _ _ y)))
                rw [hr] at this
                cases this
          · rw [upd_same, List.map_cons, List.map_map]
            rfl
end
end Pk
end
section
set_option Elab.async false
set_option linter.all false
set_option maxRecDepth 100000
set_option maxHeartbeats 4000000
namespace Pk
open PySem PySem.Spec PyProof.Rows L2
open Vakepa (Piece Part Prog Raw RawPart)
theorem index_in {n : Nat} {k : Nat} (h : n < k) : VakepBase.index (n : Int) k = some n := by
  unfold VakepBase.index
  rw [if_pos (by omega)]
  rfl
theorem index_out {n : Int} {k : Nat} (h : ¬ (0 ≤ n ∧ n < (k : Int))) : VakepBase.index n k = none := by
  unfold VakepBase.index
  rw [if_neg h]
theorem withRun_e {p : Prog} {e a : Int} {f : Vakepe.Order → VakepBase.Answer} (h : ¬ (0 ≤ e ∧ e < (p.starts.length : Int))) : Vakepe.withRun p e a f = VakepBase.one (-2) := by
  unfold Vakepe.withRun
  rw [index_out h]
  rfl
theorem withRun_k {p : Prog} {i k : Nat} {a : Int} {f : Vakepe.Order → VakepBase.Answer} (h : p.starts[i]? = some k) : Vakepe.withRun p (i : Int) a f = match VakepBase.index a (Vakepa.total p) with
    | none => VakepBase.one (-3)
    | some n => f ⟨k, n, (Vakepa.run p [] k (Vakepa.valuesOf p n)).entered⟩ := by
  unfold Vakepe.withRun
  rw [index_in (List.getElem?_eq_some_iff.mp h).1]
  show (match p.starts[i]? with
    | none => VakepBase.one (-2)
    | some k => match VakepBase.index a (Vakepa.total p) with
      | none => VakepBase.one (-3)
      | some n => f ⟨k, n, (Vakepa.run p [] k (Vakepa.valuesOf p n)).entered⟩) = _
  rw [h]
theorem withRun_a {p : Prog} {i k : Nat} {a : Int} {f : Vakepe.Order → VakepBase.Answer} (h : p.starts[i]? = some k) (h2 : ¬ (0 ≤ a ∧ a < (Vakepa.total p : Int))) : Vakepe.withRun p (i : Int) a f = VakepBase.one (-3) := by
  rw [withRun_k h, index_out h2]
theorem withRun_ok {p : Prog} {i k n : Nat} {f : Vakepe.Order → VakepBase.Answer} (h : p.starts[i]? = some k) (h2 : n < Vakepa.total p) : Vakepe.withRun p (i : Int) (n : Int) f = f ⟨k, n, (Vakepa.run p [] k (Vakepa.valuesOf p n)).entered⟩ := by
  rw [withRun_k h, index_in h2]
def runRes (z : Vakepe.Held) (e a : Int) : List Int := VakepeNeutral.encode (Vakepe.looked z (.run_ e a))
theorem runRes_is (z : Vakepe.Held) (e a : Int) : runRes z e a = VakepeNeutral.encode (Vakepe.withRun z.p e a fun o => ⟨(Vakepe.runCost (Vakepe.sizesOf z.p z.l) 0 z.l o : Int), Vakepe.loadsRow (Vakepe.loadsOf z.l o)⟩) := rfl
/-- the loads, one behind another -/
def loadsFlat (ls : List (Nat × Nat)) : List Int := ls.flatMap fun x => [(x.1 : Int), (x.2 : Int)]
theorem loadsFlat_len : ∀ ls : List (Nat × Nat), (loadsFlat ls).length = 2 * ls.length
  | [] => rfl
  | x :: r => by
    show ([(x.1 : Int), (x.2 : Int)] ++ loadsFlat r).length = _
    rw [List.length_append, loadsFlat_len r]
    show 2 + 2 * r.length = 2 * (r.length + 1)
    omega
theorem loadsFlat_snoc (ls : List (Nat × Nat)) (x : Nat × Nat) : loadsFlat (ls ++ [x]) = loadsFlat ls ++ [(x.1 : Int), (x.2 : Int)] := by
  unfold loadsFlat
  rw [List.flatMap_append]
  simp
theorem iL_app (a b : List Int) : iL (a ++ b) = iL a ++ iL b := List.map_append
theorem loadBy_len (pl : List Nat) : ∀ (th es : List Nat), (Vakepe.loadBy pl th es).length ≤ es.length
  | _, [] => Nat.le_refl _
  | th, k :: r => by
    cases q : th.contains (Vakepe.packOf pl k) with
    | true =>
      rw [loadBy_in q, List.length_cons]
      have := loadBy_len pl th r
      omega
    | false =>
      rw [loadBy_out q, List.length_cons, List.length_cons]
      have := loadBy_len pl (th ++ [Vakepe.packOf pl k]) r
      omega
/-- a list that is told, beside what was there -/
def newEnds (H : Hp) (r : List Int) (Q : VK) : Prop := ∀ (H' : Hp) (q : Addr), Same H H' → H q = none → H' q = some (.lst (iL r)) → Q (.ref q) H'
/-- what run and there refuse -/
def refuseOf (p : Prog) (e a : Int) : List Int := if 0 ≤ e ∧ e < (p.starts.length : Int) then (if 0 ≤ a ∧ a < (Vakepa.total p : Int) then [] else [-3]) else [-2]
section
variable {P : Program} {w : World} {K : PySem.W.Frag} {mg : Str → Option Value} {base : Heap} {c : Cs}
def spRefuse (c : Cs) : Sp := fun vs H Q _ => ∃ (g : Addr) (a : PA) (p : Prog) (kvs : List (Key × V)) (os : List Addr) (e s : Int), vs = [.ref g, .int e, .int s] ∧ ProgAt c H g a p kvs os ∧ WF p ∧ newEnds H (refuseOf p e s) Q
theorem scRefuse : FnScope ["program", "entry", "assignment"] ["program", "entry", "assignment"] (defScope s_run_refusal) := ⟨rfl, rfl, rfl, by decide +kernel, rfl, by decide +kernel, by decide +kernel⟩
theorem ok_refuse (T : CsT K c) (hl : mg "len" = none) (g2 : GI mg "NO_ENTRY" (-2)) (g3 : GI mg "NO_ASSIGNMENT" (-3)) (D : DefAt K mg "run_refusal" s_run_refusal) (A0 : Ok P w K mg base CX0 1 "is_one_of" ["number", "count"] spIsOne) (A2 : Ok P w K mg base CX0 1 "assignment_count" ["program"] (spCount c)) :
    Ok P w K mg base CX0 2 "run_refusal" ["program", "entry", "assignment"] (spRefuse c) := by
  refine Ok.mk' D (fun f fd F => (F.ok scRefuse (fun vs H Q E h => ?_) (fun cdv A outer s0 H vs Q E hr h => ?_) : FnOk P w K mg base CX0 (1 + 1) f fd _ _)) (fun _ _ _ _ _ _ us hl => match us, hl with | [_, _, _], _ => rfl)
  · obtain ⟨g, a, p, kvs, os, e, s, rfl, _⟩ := h
    rfl
  · obtain ⟨g, a, p, kvs, os, e, s, rfl, PAt, W, h⟩ := h
    refine ⟨_, pss_cons (ps_if (pt_not (pt_val (cl A0 hr pass0 (pa_cons (pv 1) (pa_cons (pe_callB call_len_seq (by rfl) hl PySem.boot_len (pa_cons (pe_fld (pv 0) rfl) pa_nil)) pa_nil))))) (pss_one (ps_ret (pe_lst (pa_cons (gi g2) pa_nil)))) pss_nil)
      (pss_cons (ps_if (pt_not (pt_val (cl A0 hr pass0 (pa_cons (pv 2) (pa_cons (cl A2 hr pass0 (pa_cons (pv 0) pa_nil)) pa_nil))))) (pss_one (ps_ret (pe_lst (pa_cons (gi g3) pa_nil)))) pss_nil)
      (pss_one (ps_ret (pe_lst pa_nil)))), ?_⟩
    have hsz : sizeLine = 16777216 := sizeLine_eq
    obtain ⟨gx, hg⟩ := PAt.obj
    refine ⟨_, rfl, _, rfl, g, c.prog, gx, _, _, rfl, hg, T.prog.cl, T.prog.no _ (by decide), progF_e, _, _, rfl, .inl (SqL.of PAt.le), e, _, rfl, _, rfl, ?_⟩
    rw [List.length_map]
    unfold refuseOf at h
    by_cases good : 0 ≤ e ∧ e < (p.starts.length : Int)
    · rw [if_pos good] at h
      rw [decide_eq_true good]
      refine iteF ?_
      refine ⟨_, rfl, _, rfl, g, a, p, kvs, os, rfl, PAt, W, s, _, rfl, _, rfl, ?_⟩
      by_cases good2 : 0 ≤ s ∧ s < (Vakepa.total p : Int)
      · rw [if_pos good2] at h
        rw [decide_eq_true good2]
        refine iteF ?_
        exact ⟨Nat.zero_le _, fun p hp => h _ p (Same.new hp) hp upd_same⟩
      · rw [if_neg good2] at h
        rw [decide_eq_false good2]
        refine iteT ?_
        exact ⟨by show 1 ≤ sizeLine; omega, fun p hp => h _ p (Same.new hp) hp upd_same⟩
    · rw [if_neg good] at h
      rw [decide_eq_false good]
      refine iteT ?_
      exact ⟨by show 1 ≤ sizeLine; omega, fun p hp => h _ p (Same.new hp) hp upd_same⟩
def spRunA (c : Cs) : Sp := fun vs H Q _ => ∃ (hd : Addr) (z : Vakepe.Held) (e a : Int) (G : Hp), vs = [.ref hd, .int e, .int a] ∧ HeldAt c G H hd (some z) ∧ newEnds H (runRes z e a) Q
theorem scRunA : FnScope ["held", "entry", "assignment", "refusal", "run", "loads", "answer", "load"] ["held", "entry", "assignment"] (defScope s_run_answer) := ⟨rfl, rfl, rfl, by decide +kernel, rfl, by decide +kernel, by decide +kernel⟩
theorem ok_runA (T : CsT K c) (hl : mg "len" = none) (D : DefAt K mg "run_answer" s_run_answer) (A0 : Ok P w K mg base CX0 2 "run_refusal" ["program", "entry", "assignment"] (spRefuse c)) (A1 : Ok P w K mg base CX0 1 "pack_sizes" ["program", "plan"] (spSizes K c))
    (A3 : Ok P w K mg base CX0 84 "run_through" ["program", "entry", "assignment"] (spThrough c)) (A4 : Ok P w K mg base CX0 1 "loads_of" ["entered", "plan"] (spLoads K)) (A5 : Ok P w K mg base CX0 1 "run_cost" ["sizes", "loads", "more"] (spCost K)) :
    Ok P w K mg base CX0 85 "run_answer" ["held", "entry", "assignment"] (spRunA c) := by
  refine Ok.mk' D (fun f fd F => (F.ok scRunA (fun vs H Q E h => ?_) (fun cdv A outer s0 H vs Q E hr h => ?_) : FnOk P w K mg base CX0 (84 + 1) f fd _ _)) (fun _ _ _ _ _ _ us hl => match us, hl with | [_, _, _], _ => rfl)
  · obtain ⟨hd, z, e, a, G, rfl, _⟩ := h
    rfl
  · obtain ⟨hd, z, e, a, G, rfl, HA, h⟩ := h
    have hr1 : Room 1 _ := hr.mono (by decide)
    have hr2 : Room 2 _ := hr.mono (by decide)
    refine ⟨_, pss_cons (ps_set (i := 3) scRunA.nd rfl (.inl rfl) (cl A0 hr2 pass0 (pa_cons (pe_fld (pv 0) rfl) (pa_cons (pv 1) (pa_cons (pv 2) pa_nil)))))
      (pss_cons (ps_if (pt_cmpR op_gt (pe_callB call_len_seq (by rfl) hl PySem.boot_len (pa_cons (pv 3) pa_nil)) pe_int (nomark _)) (pss_one (ps_ret (pv 3))) pss_nil)
      (pss_cons (ps_set (i := 4) scRunA.nd rfl (.inl rfl) (cl A3 hr pass0 (pa_cons (pe_fld (pv 0) rfl) (pa_cons (pv 1) (pa_cons (pv 2) pa_nil)))))
      (pss_cons (ps_set (i := 5) scRunA.nd rfl (.inl rfl) (cl A4 hr1 pass0 (pa_cons (pe_fld (pv 4) rfl) (pa_cons (pe_fld (pv 0) rfl) pa_nil))))
      (pss_cons (ps_set (i := 6) scRunA.nd rfl (.inl rfl) (pe_lst (pa_cons (cl A5 hr1 pass0 (pa_cons (cl A1 hr1 pass0 (pa_cons (pe_fld (pv 0) rfl) (pa_cons (pe_fld (pv 0) rfl) pa_nil))) (pa_cons (pv 5) (pa_cons pe_int pa_nil)))) (pa_cons (pe_callB call_len_seq (by rfl) hl PySem.boot_len (pa_cons (pv 5) pa_nil)) pa_nil))))
      (pss_cons (ps_for PassesOwn.never rfl (pi_list (pv 5)) (pg_name (i := 7) scRunA.nd rfl (.inl rfl))
        (pss_one (ps_expr (pe_bm PySem.F.plainAttrs_list PySem.F.slot_list_extend PySem.F.type_list_extend mt_extendT (pv 6) (pa_cons (pv 7) pa_nil)))))
      (pss_one (ps_ret (pv 6)))))))), ?_⟩
    have hsz : sizeLine = 16777216 := sizeLine_eq
    obtain ⟨dx, g, l0, pa, kvs, os, h1, h2, h3, PAt0, W, h60, PO⟩ := HA.all
    have h6 := h2 _ _ h60
    have PAt := PAt0.same h2
    obtain ⟨gx, hg⟩ := PAt.obj
    obtain ⟨ht1, ht2⟩ := total_le W
    refine ⟨_, rfl, hd, c.held, dx, _, _, rfl, h1, T.held.cl, T.held.no _ (by decide), heldF_p, _, rfl, _, rfl, g, pa, z.p, kvs, os, e, a, rfl, PAt, W, fun H1 rf S1 hrf0 hrf => ?_⟩
    refine ⟨_, rfl, _, _, rfl, .inl (SqL.of hrf), _, _, rfl, rfl, _, rfl, ?_⟩
    rw [iL_len]
    unfold refuseOf at hrf ⊢
    by_cases good : 0 ≤ e ∧ e < (z.p.starts.length : Int)
    · rw [if_pos good] at hrf ⊢
      obtain ⟨i, rfl⟩ := Int.eq_ofNat_of_zero_le good.1
      have hi : i < z.p.starts.length := by have := good.2; omega
      obtain ⟨k, hk⟩ : ∃ k, z.p.starts[i]? = some k := ⟨_, List.getElem?_eq_getElem hi⟩
      by_cases good2 : 0 ≤ a ∧ a < (Vakepa.total z.p : Int)
      · rw [if_pos good2] at hrf ⊢
        refine iteF ?_
        obtain ⟨n, rfl⟩ := Int.eq_ofNat_of_zero_le good2.1
        have hn : n < Vakepa.total z.p := by have := good2.2; omega
        rw [runRes_is, withRun_ok hk hn] at h
        have h1 := S1 _ _ h1
        have h6 := S1 _ _ h6
        have PAt := PAt.same S1
        refine ⟨_, rfl, hd, c.held, dx, _, _, rfl, h1, T.held.cl, T.held.no _ (by decide), heldF_p, _, rfl, _, rfl, g, pa, z.p, kvs, os, i, k, n, rfl, PAt, W, hk, by omega, fun H2 r rx dc le cnt fin s2 hr0 hr2 hle0 hle hlt hnd => ?_⟩
        refine ⟨_, rfl, r, c.run, rx, _, _, rfl, hr2, T.run.cl, T.run.no _ (by decide), runF_l, _, rfl, hd, c.held, dx, _, _, rfl, s2 _ _ h1, T.held.cl, T.held.no _ (by decide), heldF_l, le, l0, _, z.l, rfl, SqL.of hle, SqL.of (s2 _ _ h6), fun x hx => by rw [PO.len]; exact hlt x hx, ?_, fun H3 ql s3 hql0 hql => ?_⟩
        · have := nodup_bound z.p.parts.length _ hnd hlt
          have := W.p10
          omega
        have s23 := s2.trans s3
        refine ⟨_, rfl, hd, c.held, dx, _, _, rfl, s23 _ _ h1, T.held.cl, T.held.no _ (by decide), heldF_p, _, rfl, hd, c.held, dx, _, _, rfl, s23 _ _ h1, T.held.cl, T.held.no _ (by decide), heldF_l, g, l0, pa, z.p, kvs, os, z.l, rfl, PAt.same s23, W, SqL.of (s23 _ _ h6), PO, fun H4 qs s4 hqs0 hqs => ?_⟩
        have szl : (Vakepe.sizesOf z.p z.l).length = 4 := sizesTo_len z.p z.l z.p.parts.length
        have hq4 := hql.same s4
        obtain ⟨as, k1, k2⟩ := id hq4
        refine ⟨_, rfl, qs, ql, _, _, 0, rfl, SqL.of hqs, hq4, by rw [szl]; decide, fun x hx => by rw [szl]; exact loadBy_lt PO _ _ hlt x hx, _, rfl, ql, _, rfl, .inl (SqL.of k1), by show 2 ≤ sizeLine; omega, fun q hq => ?_⟩
        have s5 := Same.new (o := .lst [.int (costOf (Vakepe.sizesOf z.p z.l) 0 (Vakepe.loadBy z.l [0] (Vakepa.run z.p [] k (Vakepa.valuesOf z.p n)).entered) : Int), .int ((as.map V.ref).length : Int)]) hq
        have hll := loadBy_len z.l [0] (Vakepa.run z.p [] k (Vakepa.valuesOf z.p n)).entered
        have hel := nodup_bound z.p.parts.length _ hnd hlt
        have hp10 := W.p10
        refine ⟨_, rfl, ql, rfl, ⟨_, SqL.of (s5 _ _ k1)⟩, ?_⟩
        refine for_list (Pv := fun j σ H' => ∃ v7 : Option V, σ = [some (.ref hd), some (.int (i : Int)), some (.int (n : Int)), some (.ref rf), some (.ref r), some (.ref ql), some (.ref q), v7] ∧ Same H4 H' ∧
            H' q = some (.lst (iL ([(costOf (Vakepe.sizesOf z.p z.l) 0 (Vakepe.loadBy z.l [0] (Vakepa.run z.p [] k (Vakepa.valuesOf z.p n)).entered) : Int), ((as.map V.ref).length : Int)] ++ loadsFlat ((Vakepe.loadBy z.l [0] (Vakepa.run z.p [] k (Vakepa.valuesOf z.p n)).entered).take j)))))
          ⟨none, rfl, s5, upd_same⟩ (fun j σ H' _ ⟨_, _, e, _⟩ => SqL.of (e _ _ k1)) ?_ ?_
        · rintro j x σ H5 hx ⟨v6, rfl, m1, m2⟩
          obtain ⟨b, hb, rfl⟩ : ∃ b, as[j]? = some b ∧ x = .ref b := by
            rw [List.getElem?_map] at hx
            cases y : as[j]? with
            | none => rw [y] at hx; cases hx
            | some k => rw [y] at hx; exact ⟨k, rfl, (Option.some.inj hx).symm⟩
          obtain ⟨y, hy, hT⟩ := k2.get' hb
          refine ⟨_, rfl, .inl ⟨rfl, _, SqL.of m2⟩, _, rfl, q, b, _, _, rfl, rfl, m2, SqT.of (m1 _ _ hT), ?_, ?_⟩
          · rw [iL_len, List.length_append, loadsFlat_len, List.length_take]
            show 2 + _ + 2 ≤ sizeLine
            omega
          · refine ⟨_, rfl, fun a o e => ?_, ?_⟩
            · rw [upd_ne (ne_of_none e hq)]
              exact m1 _ _ e
            · rw [upd_same, take_snocG hy, loadsFlat_snoc, ← List.append_assoc]
              exact congrArg (fun z => some (HO.lst z)) (iL_app _ [(y.1 : Int), (y.2 : Int)]).symm
        · rintro σ H5 ⟨v6, rfl, m1, m2⟩
          rw [List.length_map, k2.len, List.take_length] at m2
          refine ⟨_, rfl, h H5 q (S1.trans ((s23.trans s4).trans m1)) ((S1.trans (s23.trans s4)).free hq) (m2.trans ?_)⟩
          show some (HO.lst (iL (_ :: _ :: loadsFlat _))) = some (HO.lst (iL (_ :: _ :: _)))
          rfl
      · rw [if_neg good2] at hrf ⊢
        refine iteT ?_
        rw [runRes_is, withRun_a hk good2] at h
        exact ⟨_, rfl, h H1 rf S1 hrf0 hrf⟩
    · rw [if_neg good] at hrf ⊢
      refine iteT ?_
      rw [runRes_is, withRun_e good] at h
      exact ⟨_, rfl, h H1 rf S1 hrf0 hrf⟩
end
end Pk
end
section
set_option Elab.async false
set_option linter.all false
set_option maxRecDepth 100000
set_option maxHeartbeats 4000000
namespace Pk
open PySem PySem.Spec PyProof.Rows L2
open Vakepa (Piece Part Prog Raw RawPart)
/-! ### the dearest run -/
def wstep (f : Vakepe.Order → Nat) (b : Option (Nat × Vakepe.Order)) (o : Vakepe.Order) : Option (Nat × Vakepe.Order) := match b with
  | none => some (f o, o)
  | some x => if x.1 < f o then some (f o, o) else some x
theorem worst_fold (p : Prog) (os : List Vakepe.Order) (w : Nat) (l : List Nat) : Vakepe.worst p os w l = os.foldl (wstep (Vakepe.runCost (Vakepe.sizesOf p l) w l)) none := rfl
theorem wkeep {f : Vakepe.Order → Nat} {x : Nat × Vakepe.Order} : ∀ {os : List Vakepe.Order}, (∀ o ∈ os, f o ≤ x.1) → os.foldl (wstep f) (some x) = some x
  | [], _ => rfl
  | a :: r, h => by
    rw [List.foldl_cons]
    have e : wstep f (some x) a = some x := by
      show (if x.1 < f a then some (f a, a) else some x) = _
      rw [if_neg (by have := h a (List.mem_cons_self ..); omega)]
    rw [e]
    exact wkeep fun o ho => h o (List.mem_cons_of_mem _ ho)
theorem wfirst {f : Vakepe.Order → Nat} {M : Nat} {o : Vakepe.Order} (ho : f o = M) : ∀ {os : List Vakepe.Order} {j : Nat} {b : Option (Nat × Vakepe.Order)}, os[j]? = some o → (∀ x ∈ os, f x ≤ M) → (∀ (m : Nat) (x : Vakepe.Order), m < j → os[m]? = some x → f x < M) →
    (∀ x, b = some x → x.1 < M) → os.foldl (wstep f) b = some (M, o)
  | [], j, b, h, _, _, _ => by simp at h
  | a :: r, 0, b, h, h1, _, hb => by
    have e : a = o := Option.some.inj h
    subst e
    rw [List.foldl_cons]
    have e : wstep f b a = some (M, a) := by
      cases b with
      | none =>
        show some (f a, a) = _
        rw [ho]
      | some x =>
        show (if x.1 < f a then some (f a, a) else some x) = _
        rw [if_pos (by rw [ho]; exact hb x rfl), ho]
    rw [e]
    exact wkeep fun x hx => h1 x (List.mem_cons_of_mem _ hx)
  | a :: r, j + 1, b, h, h1, h2, hb => by
    have h : r[j]? = some o := h
    have ha : f a < M := h2 0 a (Nat.succ_pos _) rfl
    rw [List.foldl_cons]
    refine wfirst ho h (fun x hx => h1 x (List.mem_cons_of_mem _ hx)) (fun m x hm hx => h2 (m + 1) x (Nat.succ_lt_succ hm) hx) fun x hx => ?_
    cases b with
    | none =>
      have hx : some (f a, a) = some x := hx
      rw [← Option.some.inj hx]
      exact ha
    | some y =>
      have hx : (if y.1 < f a then some (f a, a) else some y) = some x := hx
      by_cases q : y.1 < f a
      · rw [if_pos q] at hx
        rw [← Option.some.inj hx]
        exact ha
      · rw [if_neg q] at hx
        rw [← Option.some.inj hx]
        exact hb y rfl
/-- lists of one length, one behind another -/
theorem flat_at {α β : Type} {f : α → List β} {t : Nat} (ht : 1 ≤ t) (hf : ∀ a, (f a).length = t) : ∀ (l : List α) (j : Nat), (l.flatMap f)[j]? = (l[j / t]?).bind fun a => (f a)[j % t]?
  | [], j => by simp
  | a :: r, j => by
    rw [List.flatMap_cons]
    by_cases h : j < t
    · rw [List.getElem?_append_left (by rw [hf]; exact h), Nat.div_eq_of_lt h, Nat.mod_eq_of_lt h]
      rfl
    · rw [List.getElem?_append_right (by rw [hf]; omega), hf, flat_at ht hf r (j - t)]
      have e1 : j / t = (j - t) / t + 1 := by
        rw [Nat.div_eq_sub_div (by omega) (by omega)]
      have e2 : j % t = (j - t) % t := by
        rw [Nat.mod_eq_sub_mod (by omega)]
      rw [e1, e2, List.getElem?_cons_succ]
theorem orders_at {p : Prog} (W : WF p) {j : Nat} {o : Vakepe.Order} (h : (Vakepe.orders p)[j]? = some o) : p.starts[j / Vakepa.total p]? = some o.e ∧ o.a = j % Vakepa.total p := by
  have ht := (total_le W).1
  rw [orders_is, flat_at ht (ordersE_len p) p.starts j] at h
  cases q : p.starts[j / Vakepa.total p]? with
  | none => rw [q] at h; cases h
  | some e =>
    rw [q] at h
    have h : (ordersE p e)[j % Vakepa.total p]? = some o := h
    unfold ordersE at h
    rw [List.getElem?_map, List.getElem?_range (Nat.mod_lt _ (by omega))] at h
    have h := Option.some.inj h
    rw [← h]
    exact ⟨rfl, rfl⟩
theorem entryNo_is {p : Prog} (W : WF p) {i e : Nat} (h : p.starts[i]? = some e) : Vakepa.entryNo p e = i := by
  unfold Vakepa.entryNo
  obtain ⟨hi, he⟩ := List.getElem?_eq_some_iff.mp h
  refine (List.findIdx_eq hi).mpr ⟨by rw [he]; exact beq_self_eq_true e, fun j hj => ?_⟩
  have hjl : j < p.starts.length := by omega
  refine beq_eq_false_iff_ne.mpr fun z => ?_
  rw [← he] at z
  exact absurd ((List.getElem_inj W.std).mp z) (by omega)
theorem first_at {M : Nat} : ∀ {l : List Nat}, M ∈ l → ∃ j, l[j]? = some M ∧ ∀ (m x : Nat), m < j → l[m]? = some x → x ≠ M
  | [], h => by cases h
  | a :: r, h => by
    by_cases q : a = M
    · exact ⟨0, by rw [q]; rfl, fun m x hm => by omega⟩
    · have hr : M ∈ r := by
        rcases List.mem_cons.mp h with z | z
        · exact absurd z.symm q
        · exact z
      obtain ⟨j, h1, h2⟩ := first_at hr
      refine ⟨j + 1, h1, fun m x hm hx => ?_⟩
      match m with
      | 0 =>
        have e : a = x := Option.some.inj hx
        rw [← e]
        exact q
      | m + 1 => exact h2 m x (by omega) hx
def costRes (z : Vakepe.Held) (w : Int) : List Int := VakepeNeutral.encode (Vakepe.looked z (.cost w))
theorem costRes_bad {z : Vakepe.Held} {w : Int} (h : ¬ (0 ≤ w ∧ w ≤ 1000)) : costRes z w = [-5] := by
  unfold costRes
  show VakepeNeutral.encode (Vakepe.withCost w _) = _
  unfold Vakepe.withCost
  rw [if_pos (by show w < 0 ∨ (1000 : Int) < w; omega)]
  rfl
theorem costRes_ok {z : Vakepe.Held} (W : WF z.p) {m : Nat} (h : m ≤ 1000) {costs : List Nat} (hc : costs = (Vakepe.orders z.p).map (Vakepe.runCost (Vakepe.sizesOf z.p z.l) m z.l)) {j M : Nat} (hj : costs[j]? = some M) (hM : ∀ x ∈ costs, x ≤ M) (h1 : ∀ (m x : Nat), m < j → costs[m]? = some x → x ≠ M) :
    costRes z (m : Int) = [(costs.sum : Int), (costs.length : Int), (packTo z.p z.l 0 z.p.parts.length : Int), (M : Int), ((j / Vakepa.total z.p : Nat) : Int), ((j % Vakepa.total z.p : Nat) : Int)] := by
  unfold costRes
  show VakepeNeutral.encode (Vakepe.withCost (m : Int) _) = _
  unfold Vakepe.withCost
  rw [if_neg (by show ¬ ((m : Int) < 0 ∨ (1000 : Int) < m); omega)]
  have em : (m : Int).toNat = m := Int.toNat_natCast m
  rw [em]
  obtain ⟨o, ho, hoM⟩ : ∃ o, (Vakepe.orders z.p)[j]? = some o ∧ Vakepe.runCost (Vakepe.sizesOf z.p z.l) m z.l o = M := by
    rw [hc, List.getElem?_map] at hj
    cases q : (Vakepe.orders z.p)[j]? with
    | none => rw [q] at hj; cases hj
    | some o => rw [q] at hj; exact ⟨o, rfl, Option.some.inj hj⟩
  have hw : Vakepe.worst z.p (Vakepe.orders z.p) m z.l = some (M, o) := by
    rw [worst_fold]
    refine wfirst hoM ho (fun x hx => hM _ (by rw [hc]; exact List.mem_map.mpr ⟨x, hx, rfl⟩)) (fun k x hk hx => ?_) (fun x hx => by cases hx)
    have e : costs[k]? = some (Vakepe.runCost (Vakepe.sizesOf z.p z.l) m z.l x) := by rw [hc, List.getElem?_map, hx]; rfl
    have := h1 k _ hk e
    have := hM _ (List.mem_of_getElem? e)
    omega
  obtain ⟨o1, o2⟩ := orders_at W ho
  have e1 := entryNo_is W o1
  show (Vakepe.totalBy z.p (Vakepe.orders z.p) m z.l : Int) :: (Vakepe.nats [(Vakepe.orders z.p).length, Vakepe.packSize z.p z.l 0] ++ (match Vakepe.worst z.p (Vakepe.orders z.p) m z.l with
    | none => []
    | some x => Vakepe.nats [x.1, Vakepa.entryNo z.p x.2.e, x.2.a])) = _
  rw [hw]
  show (Vakepe.totalBy z.p (Vakepe.orders z.p) m z.l : Int) :: (Vakepe.nats [(Vakepe.orders z.p).length, Vakepe.packSize z.p z.l 0] ++ Vakepe.nats [M, Vakepa.entryNo z.p o.e, o.a]) = _
  rw [e1, o2]
  have e2 : Vakepe.totalBy z.p (Vakepe.orders z.p) m z.l = costs.sum := by rw [hc]; rfl
  have e3 : (Vakepe.orders z.p).length = costs.length := by rw [hc, List.length_map]
  rw [e2, e3]
  rfl
end Pk
end
section
set_option Elab.async false
set_option linter.all false
set_option maxRecDepth 100000
set_option maxHeartbeats 4000000
namespace Pk
open PySem PySem.Spec PyProof.Rows L2
open Vakepa (Piece Part Prog Raw RawPart)
theorem orders_len {p : Prog} (W : WF p) : 1 ≤ (Vakepe.orders p).length ∧ (Vakepe.orders p).length ≤ 256 := by
  have h := ordersTo_len W p.starts.length
  rw [ordersTo_all] at h
  refine ⟨?_, h⟩
  rw [orders_is]
  have h1 := W.e1
  cases q : p.starts with
  | nil => rw [q] at h1; exact absurd h1 (by decide)
  | cons a r =>
    rw [List.flatMap_cons, List.length_append, ordersE_len]
    have := (total_le W).1
    omega
theorem nL_get {l : List Nat} {m : Nat} {x : V} (h : (nL l)[m]? = some x) : ∃ n, l[m]? = some n ∧ x = .int (n : Int) := by
  unfold nL at h
  rw [List.getElem?_map] at h
  cases z : l[m]? with
  | none => rw [z] at h; cases h
  | some k => rw [z] at h; exact ⟨k, rfl, (Option.some.inj h).symm⟩
theorem int_eqV {a b : Nat} : eqV (V.int (a : Int)) (V.int (b : Int)) = decide (a = b) := by
  show ((a : Int) == (b : Int)) = _
  rw [Bool.eq_iff_iff, beq_iff_eq, decide_eq_true_eq]
  omega
theorem costs_orders (p : Prog) (l : List Nat) (m : Nat) : costsOf p l m (runsOf p) = (Vakepe.orders p).map (Vakepe.runCost (Vakepe.sizesOf p l) m l) := by
  unfold costsOf runsOf
  rw [List.map_map]
  rfl
section
variable {P : Program} {w : World} {K : PySem.W.Frag} {mg : Str → Option Value} {base : Heap} {c : Cs}
def spCostA (c : Cs) : Sp := fun vs H Q _ => ∃ (hd : Addr) (z : Vakepe.Held) (m : Int) (G : Hp), vs = [.ref hd, .int m] ∧ HeldAt c G H hd (some z) ∧ newEnds H (costRes z m) Q
theorem scCostA : FnScope ["held", "more", "costs", "dearest", "assignments", "first_size"] ["held", "more"] (defScope s_cost_answer) := ⟨rfl, rfl, rfl, by decide +kernel, rfl, by decide +kernel, by decide +kernel⟩
theorem ok_costA (T : CsT K c) (hl : mg "len" = none) (hmx : mg "max" = none) (hsm : mg "sum" = none) (g5 : GI mg "BAD_COST" (-5)) (D : DefAt K mg "cost_answer" s_cost_answer) (A0 : Ok P w K mg base CX0 1 "is_cost" ["number"] spIsCost) (A4 : Ok P w K mg base CX0 85 "all_entered" ["program"] (spAllEnt c)) (A1 : Ok P w K mg base CX0 1 "pack_sizes" ["program", "plan"] (spSizes K c)) (A2 : Ok P w K mg base CX0 1 "assignment_count" ["program"] (spCount c))
    (A3 : Ok P w K mg base CX0 2 "all_costs" ["program", "plan", "all_runs", "more"] (spAllCosts K c)) : Ok P w K mg base CX0 86 "cost_answer" ["held", "more"] (spCostA c) := by
  refine Ok.mk' D (fun f fd F => (F.ok scCostA (fun vs H Q E h => ?_) (fun cdv A outer s0 H vs Q E hr h => ?_) : FnOk P w K mg base CX0 (85 + 1) f fd _ _)) (fun _ _ _ _ _ _ us hl => match us, hl with | [_, _], _ => rfl)
  · obtain ⟨hd, z, m, G, rfl, _⟩ := h
    rfl
  · obtain ⟨hd, z, m, G, rfl, HA, h⟩ := h
    have hr1 : Room 1 _ := hr.mono (by decide)
    refine ⟨_, pss_cons (ps_if (pt_not (pt_val (cl A0 hr1 pass0 (pa_cons (pv 1) pa_nil)))) (pss_one (ps_ret (pe_lst (pa_cons (gi g5) pa_nil)))) pss_nil)
      (pss_cons (ps_set (i := 2) scCostA.nd rfl (.inl rfl) (cl A3 (hr.mono (by decide)) pass0 (pa_cons (pe_fld (pv 0) rfl) (pa_cons (pe_fld (pv 0) rfl) (pa_cons (cl A4 hr pass0 (pa_cons (pe_fld (pv 0) rfl) pa_nil)) (pa_cons (pv 1) pa_nil))))))
      (pss_cons (ps_set (i := 3) scCostA.nd rfl (.inl rfl) (pe_bm PySem.F.plainAttrs_list PySem.F.slot_list_index PySem.F.type_list_index mt_index (pv 2) (pa_cons (pe_callB (cr_max rfl) (by rfl) hmx boot_max (pa_cons (pv 2) pa_nil)) pa_nil)))
      (pss_cons (ps_set (i := 4) scCostA.nd rfl (.inl rfl) (cl A2 hr1 pass0 (pa_cons (pe_fld (pv 0) rfl) pa_nil)))
      (pss_cons (ps_set (i := 5) scCostA.nd rfl (.inl rfl) (pe_ix ix_list (cl A1 hr1 pass0 (pa_cons (pe_fld (pv 0) rfl) (pa_cons (pe_fld (pv 0) rfl) pa_nil))) pe_int (fun _ _ => rfl)))
      (pss_one (ps_ret (pe_lst (pa_cons (pe_callB (cr_sum rfl) (by rfl) hsm boot_sum (pa_cons (pv 2) pa_nil)) (pa_cons (pe_callB call_len_seq (by rfl) hl PySem.boot_len (pa_cons (pv 2) pa_nil)) (pa_cons (pv 5) (pa_cons (pe_ix ix_list (pv 2) (pv 3) (fun _ _ => rfl)) (pa_cons (pe_op op_fdivN (pv 3) (pv 4)) (pa_cons (pe_op op_modN (pv 3) (pv 4)) pa_nil))))))))))))), ?_⟩
    have hsz : sizeLine = 16777216 := sizeLine_eq
    obtain ⟨dx, g, l0, pa, kvs, os, h1, h2, h3, PAt0, W, h60, PO⟩ := HA.all
    have h6 := h2 _ _ h60
    have PAt := PAt0.same h2
    obtain ⟨ht1, ht2⟩ := total_le W
    obtain ⟨ol1, ol2⟩ := orders_len W
    refine ⟨_, rfl, m, rfl, _, rfl, ?_⟩
    by_cases good : 0 ≤ m ∧ m ≤ 1000
    case neg =>
      rw [decide_eq_false good]
      refine iteT ?_
      rw [costRes_bad good] at h
      exact ⟨by show 1 ≤ sizeLine; omega, fun p hp => h _ p (Same.new hp) hp upd_same⟩
    case pos =>
      rw [decide_eq_true good]
      refine iteF ?_
      obtain ⟨n, rfl⟩ := Int.eq_ofNat_of_zero_le good.1
      have hn : n ≤ 1000 := by have := good.2; omega
      refine ⟨_, rfl, hd, c.held, dx, _, _, rfl, h1, T.held.cl, T.held.no _ (by decide), heldF_p, _, rfl, hd, c.held, dx, _, _, rfl, h1, T.held.cl, T.held.no _ (by decide), heldF_l, _, rfl, hd, c.held, dx, _, _, rfl, h1, T.held.cl, T.held.no _ (by decide), heldF_p, g, pa, z.p, kvs, os, rfl, PAt, W, fun Hr rr sr hrr0 hrr hrok => ?_⟩
      refine ⟨_, rfl, g, l0, rr, pa, z.p, kvs, os, z.l, runsOf z.p, n, rfl, PAt.same sr, W, SqL.of (sr _ _ h6), PO, hrr, hrok, by unfold runsOf; rw [List.length_map]; omega, fun H2 q s2' hq0' hq => ?_⟩
      have s2 := sr.trans s2'
      have hq0 : H q = none := sr.free hq0'
      rw [costs_orders] at hq
      generalize hcs : (Vakepe.orders z.p).map (Vakepe.runCost (Vakepe.sizesOf z.p z.l) n z.l) = costs at hq
      have hcl : costs.length = (Vakepe.orders z.p).length := by rw [← hcs, List.length_map]
      refine ⟨_, rfl, .inl ⟨rfl, _, SqL.of hq⟩, _, rfl, q, _, rfl, SqL.of (hq.trans (by rw [nL_ints])), by rw [List.length_map]; omega, fun M0 hM1 hM2 => ?_⟩
      obtain ⟨M, hMc, rfl⟩ := List.mem_map.mp hM1
      have hM : ∀ x ∈ costs, x ≤ M := fun x hx => by
        have := hM2 (x : Int) (List.mem_map.mpr ⟨x, hx, rfl⟩)
        omega
      obtain ⟨j, hj, hj1⟩ := first_at hMc
      have hjl : j < costs.length := (List.getElem?_eq_some_iff.mp hj).1
      refine ⟨q, _, _, j, _, rfl, rfl, SqL.of hq, rfl, nL_flat costs, nL_at hj, by rw [int_eqV]; exact decide_eq_true rfl, fun k x hk hx => ?_, ?_⟩
      · obtain ⟨y, hy, rfl⟩ := nL_get hx
        rw [int_eqV]
        exact decide_eq_false (hj1 k y hk hy)
      have hres := costRes_ok W hn hcs.symm hj hM hj1
      rw [hres] at h
      refine ⟨_, rfl, hd, c.held, dx, _, _, rfl, s2 _ _ h1, T.held.cl, T.held.no _ (by decide), heldF_p, g, pa, z.p, kvs, os, rfl, PAt.same s2, W, ?_⟩
      refine ⟨_, rfl, hd, c.held, dx, _, _, rfl, s2 _ _ h1, T.held.cl, T.held.no _ (by decide), heldF_p, _, rfl, hd, c.held, dx, _, _, rfl, s2 _ _ h1, T.held.cl, T.held.no _ (by decide), heldF_l, g, l0, pa, z.p, kvs, os, z.l, rfl, PAt.same s2, W, SqL.of (s2 _ _ h6), PO, fun H3 qs s3 hqs0 hqs => ?_⟩
      refine ⟨qs, _, _, _, rfl, rfl, SqL.of hqs, atI_nat (j := 0) (nL_at (sizesTo_at z.p z.l z.p.parts.length (by decide))), ?_⟩
      have hq3 := s3 _ _ hq
      refine ⟨_, rfl, q, _, rfl, SqL.of (hq3.trans (by rw [nL_ints])), _, rfl, q, _, rfl, .inl (SqL.of hq3), _, rfl, _, rfl, _, rfl, q, _, _, _, rfl, rfl, SqL.of hq3, atI_nat (nL_at hj), ?_⟩
      refine ⟨_, rfl, _, rfl, _, _, rfl, rfl, ?_, _, rfl, _, rfl, _, _, rfl, rfl, by omega, by show 6 ≤ sizeLine; omega, fun p hp => ?_⟩
      · exact ⟨by omega, by omega⟩
      refine h _ p ((s2.trans s3).trans (Same.new hp)) ((s2.trans s3).free hp) ?_
      rw [upd_same, nats_sum, nL_len]
      dsimp only
      rw [fdiv_nat, fmod_nat]
      rfl
end
end Pk
end
section
set_option Elab.async false
set_option linter.all false
set_option maxRecDepth 100000
set_option maxHeartbeats 4000000
namespace Pk
open PySem PySem.Spec PyProof.Rows L2
open Vakepa (Piece Part Prog Raw RawPart)
/-! ### one call off the list -/
def numbersTold : List Nat := [0, 0, 1, 2, 1, 2, 2, 3]
def rowsTold : List Nat := [1, 1, 0, 0, 0, 0, 0, 0]
theorem shape_inv {p : Int} {n k : Nat} (h : PyVakepe.shape p = some (n, k)) : ∃ q : Nat, p = (q : Int) ∧ q < 8 ∧ numbersTold[q]? = some n ∧ rowsTold[q]? = some k := by
  have key : ∀ q : Nat, q < 8 → ∀ n k, PyVakepe.shape (q : Int) = some (n, k) → numbersTold[q]? = some n ∧ rowsTold[q]? = some k := by
    intro q hq n k e
    match q, hq with
    | 0, _ => cases e; exact ⟨rfl, rfl⟩
    | 1, _ => cases e; exact ⟨rfl, rfl⟩
    | 2, _ => cases e; exact ⟨rfl, rfl⟩
    | 3, _ => cases e; exact ⟨rfl, rfl⟩
    | 4, _ => cases e; exact ⟨rfl, rfl⟩
    | 5, _ => cases e; exact ⟨rfl, rfl⟩
    | 6, _ => cases e; exact ⟨rfl, rfl⟩
    | 7, _ => cases e; exact ⟨rfl, rfl⟩
  have hp : 0 ≤ p ∧ p < 8 := by
    unfold PyVakepe.shape at h
    by_cases h0 : p = 0
    · omega
    by_cases h1 : p = 1
    · omega
    by_cases h2 : p = 2
    · omega
    by_cases h3 : p = 3
    · omega
    by_cases h4 : p = 4
    · omega
    by_cases h5 : p = 5
    · omega
    by_cases h6 : p = 6
    · omega
    by_cases h7 : p = 7
    · omega
    rw [if_neg h0, if_neg h1, if_neg h2, if_neg h3, if_neg h4, if_neg h5, if_neg h6, if_neg h7] at h
    cases h
  obtain ⟨q, rfl⟩ := Int.eq_ofNat_of_zero_le hp.1
  have hq : q < 8 := by omega
  obtain ⟨a, b⟩ := key q hq n k h
  exact ⟨q, rfl, hq, a, b⟩
structure CallIs (l : List Int) (c : List (List Int)) (t : List Int) (p : Nat) (xs r : List Int) (n k : Nat) : Prop where
  p8 : p < 8
  nt : numbersTold[p]? = some n
  rt : rowsTold[p]? = some k
  eq : l = (p : Int) :: (xs ++ r)
  len : xs.length = n
  rest : (k = 0 ∧ c = [(p : Int) :: xs] ∧ t = r) ∨ (k = 1 ∧ ∃ (m : Nat) (s : List Int), r = (m : Int) :: s ∧ m ≤ s.length ∧ c = [(p : Int) :: xs, s.take m] ∧ t = s.drop m)
theorem call_inv {l : List Int} {c : List (List Int)} {t : List Int} (h : PyFlat.call PyVakepe.shape l = some (c, t)) : ∃ p xs r n k, CallIs l c t p xs r n k := by
  cases l with
  | nil => cases h
  | cons p0 r0 =>
    unfold PyFlat.call at h
    dsimp only at h
    cases q : PyVakepe.shape p0 with
    | none => rw [q] at h; cases h
    | some nk =>
      obtain ⟨n, k⟩ := nk
      rw [q] at h
      obtain ⟨p, rfl, hp, h1, h2⟩ := shape_inv q
      have h : (if r0.length < n then none else match PyFlat.rows k (r0.drop n) with
        | none => none
        | some (xs, t) => some (((p : Int) :: r0.take n) :: xs, t)) = some (c, t) := h
      by_cases hn : r0.length < n
      · rw [if_pos hn] at h
        cases h
      · rw [if_neg hn] at h
        have hk : k = 0 ∨ k = 1 := by
          have : ∀ k ∈ rowsTold, k = 0 ∨ k = 1 := by decide
          exact this k (List.mem_of_getElem? h2)
        refine ⟨p, r0.take n, r0.drop n, n, k, hp, h1, h2, by rw [List.take_append_drop], by rw [List.length_take]; omega, ?_⟩
        rcases hk with rfl | rfl
        · have h : some (((p : Int) :: r0.take n) :: [], r0.drop n) = some (c, t) := h
          have h := Option.some.inj h
          cases h
          exact .inl ⟨rfl, rfl, rfl⟩
        · refine .inr ⟨rfl, ?_⟩
          cases e : r0.drop n with
          | nil => rw [e] at h; cases h
          | cons m0 s =>
            rw [e] at h
            have h : (match (match (if 0 ≤ m0 ∧ m0.toNat ≤ s.length then some (s.take m0.toNat, s.drop m0.toNat) else none) with
              | none => (none : Option (List (List Int) × List Int))
              | some (x, s) => match PyFlat.rows 0 s with
                | none => none
                | some (xs, t) => some (x :: xs, t)) with
              | none => none
              | some (xs, t) => some (((p : Int) :: r0.take n) :: xs, t)) = some (c, t) := h
            by_cases hm : 0 ≤ m0 ∧ m0.toNat ≤ s.length
            · rw [if_pos hm] at h
              have h : some (((p : Int) :: r0.take n) :: [s.take m0.toNat], s.drop m0.toNat) = some (c, t) := h
              have h := Option.some.inj h
              cases h
              exact ⟨m0.toNat, s, by rw [Int.toNat_of_nonneg hm.1], hm.2, rfl, rfl⟩
            · rw [if_neg hm] at h
              cases h
/-- how long a call is -/
def callLen (c : List (List Int)) : Nat := match c with
  | [] => 0
  | a :: r => a.length + (r.map fun x => x.length + 1).sum
theorem CallIs.length {l : List Int} {c : List (List Int)} {t : List Int} {p : Nat} {xs r : List Int} {n k : Nat} (C : CallIs l c t p xs r n k) : l.length = callLen c + t.length ∧ 1 ≤ callLen c := by
  have e := C.eq
  rcases C.rest with ⟨_, hc, ht⟩ | ⟨_, m, s, hr, hm, hc, ht⟩
  · subst hc ht e
    unfold callLen
    simp
    omega
  · subst hc ht hr e
    unfold callLen
    simp
    omega
theorem CallIs.drop {l : List Int} {c : List (List Int)} {t : List Int} {p : Nat} {xs r : List Int} {n k : Nat} (C : CallIs l c t p xs r n k) : l.drop (callLen c) = t := by
  have e := C.eq
  rcases C.rest with ⟨_, hc, ht⟩ | ⟨_, m, s, hr, hm, hc, ht⟩
  · subst hc ht e
    show ((p : Int) :: (xs ++ t)).drop (((p : Int) :: xs).length + 0) = t
    rw [Nat.add_zero, List.length_cons, List.drop_succ_cons, List.drop_left]
  · subst hc ht hr e
    have e : callLen [(p : Int) :: xs, s.take m] = (xs.length + (m + 1)) + 1 := by
      unfold callLen
      simp
      omega
    rw [e, List.drop_succ_cons, ← List.drop_drop, List.drop_left, List.drop_succ_cons]
end Pk
end
section
set_option Elab.async false
set_option linter.all false
set_option maxRecDepth 100000
set_option maxHeartbeats 4000000
namespace Pk
open PySem PySem.Spec PyProof.Rows L2
open Vakepa (Piece Part Prog Raw RawPart)
theorem iL_at {l : List Int} {i : Nat} {n : Int} (h : l[i]? = some n) : (iL l)[i]? = some (.int n) := by
  unfold iL
  rw [List.getElem?_map, h]
  rfl
section
variable {P : Program} {w : World} {K : PySem.W.Frag} {mg : Str → Option Value} {base : Heap} {c : Cs}
def spEnd (K : PySem.W.Frag) : Sp := fun vs H Q _ => ∃ (a : Addr) (i : Nat) (l : List Int) (cc : List (List Int)) (t : List Int), vs = [.ref a, .int (i : Int)] ∧ SqL K H a (iL l) ∧ PyFlat.call PyVakepe.shape (l.drop i) = some (cc, t) ∧ Q (.int ((i + callLen cc : Nat) : Int)) H
theorem scEnd : FnScope ["calls", "at", "after", "row"] ["calls", "at"] (defScope s_call_end) := ⟨rfl, rfl, rfl, by decide +kernel, rfl, by decide +kernel, by decide +kernel⟩
theorem ok_end (hrg : mg "range" = none) {an ar : Addr} (gn : mg "NUMBERS_TOLD" = some (.ref an)) (tn : ∀ H, SqT K H an (nL numbersTold)) (gt : mg "ROWS_TOLD" = some (.ref ar)) (tr : ∀ H, SqT K H ar (nL rowsTold)) (D : DefAt K mg "call_end" s_call_end) :
    Ok P w K mg base CX0 1 "call_end" ["calls", "at"] (spEnd K) := by
  refine Ok.mk' D (fun f fd F => F.ok scEnd (fun vs H Q E h => ?_) (fun cdv A outer s0 H vs Q E hr h => ?_)) (fun _ _ _ _ _ _ us hl => match us, hl with | [_, _], _ => rfl)
  · obtain ⟨a, i, l, cc, t, rfl, _⟩ := h
    rfl
  · obtain ⟨a, i, l, cc, t, rfl, hs, hc, h⟩ := h
    refine ⟨_, pss_cons (ps_set (i := 2) scEnd.nd rfl (.inl rfl) (pe_add (pe_add (pv 1) pe_int) (pe_ix ix_tup (gr gn) (pe_ix ix_list (pv 0) (pv 1) (fun _ _ => rfl)) (fun _ _ => rfl))))
      (pss_cons (ps_for PassesOwn.never rfl (pi_range1 (by rfl) hrg (pa_cons (pe_ix ix_tup (gr gt) (pe_ix ix_list (pv 0) (pv 1) (fun _ _ => rfl)) (fun _ _ => rfl)) pa_nil)) (pg_name (i := 3) scEnd.nd rfl (.inl rfl))
        (pss_one (ps_aug (i := 2) scEnd.nd rfl (.inl rfl) (pe_add pe_int (pe_ix ix_list (pv 0) (pv 2) (fun _ _ => rfl))) ip_add)))
      (pss_one (ps_ret (pv 2)))), ?_⟩
    obtain ⟨p, xs, r, n, k, C⟩ := call_inv hc
    have h0 : l[i]? = some (p : Int) := by
      have e := congrArg (fun z => z[0]?) C.eq
      simpa using e
    have hk : k ≤ 1 := by
      rcases C.rest with ⟨e, _⟩ | ⟨e, _⟩ <;> omega
    refine ⟨_, rfl, _, _, rfl, rfl, _, rfl, _, rfl, a, _, _, _, rfl, rfl, hs, atI_nat (iL_at h0), an, _, _, _, rfl, rfl, tn _, atI_nat (nL_at C.nt), _, _, rfl, rfl, ?_⟩
    refine ⟨_, rfl, _, rfl, a, _, _, _, rfl, rfl, hs, atI_nat (iL_at h0), ar, _, _, _, rfl, rfl, tr _, atI_nat (nL_at C.rt), _, rfl, by omega, by omega, ?_⟩
    rw [Int.toNat_natCast]
    refine for_range (Pv := fun j σ H' => ∃ v3 : Option V, σ = [some (.ref a), some (.int (i : Int)), some (.int (if j = 0 then ((i + 1 + n : Nat) : Int) else ((i + callLen cc : Nat) : Int))), v3] ∧ H' = H)
      ⟨none, ?_, rfl⟩ ?_ ?_
    · rw [if_pos rfl]
      have e : ((i : Int) + 1 + (n : Int)) = ((i + 1 + n : Nat) : Int) := by omega
      rw [← e]
      rfl
    · rintro j σ H' hj ⟨v3, rfl, rfl⟩
      have ej : j = 0 := by omega
      subst ej
      rcases C.rest with ⟨e, _⟩ | ⟨e, m, s, hr2, hm, hcc, ht⟩
      · omega
      have e2 : callLen cc = n + 1 + (m + 1) := by
        rw [hcc]
        unfold callLen
        simp
        have := C.len
        omega
      have hm2 : l[i + 1 + n]? = some (m : Int) := by
        have e3 := congrArg (fun z => z[1 + n]?) C.eq
        rw [hr2] at e3
        simp only [List.getElem?_drop] at e3
        have e4 : i + (1 + n) = i + 1 + n := by omega
        rw [e4] at e3
        rw [e3, Nat.add_comm 1 n, List.getElem?_cons_succ, List.getElem?_append_right (by rw [C.len]; exact Nat.le_refl _), C.len, Nat.sub_self]
        rfl
      rw [if_pos rfl]
      refine ⟨_, rfl, _, rfl, _, rfl, a, _, _, _, rfl, rfl, hs, atI_nat (iL_at hm2), _, _, rfl, rfl, _, _, rfl, rfl, some (.int 0), ?_, rfl⟩
      rw [if_neg (by decide)]
      dsimp only
      have e5 : ((i + 1 + n : Nat) : Int) + (1 + (m : Int)) = ((i + callLen cc : Nat) : Int) := by omega
      rw [e5]
      rfl
    · rintro σ H' ⟨v3, rfl, rfl⟩
      refine ⟨_, rfl, ?_⟩
      by_cases e : k = 0
      · rcases C.rest with ⟨_, hcc, _⟩ | ⟨e', _⟩
        · have e2 : callLen cc = n + 1 := by
            rw [hcc]
            unfold callLen
            simp
            have := C.len
            omega
          rw [if_pos e]
          rw [e2] at h
          have e3 : i + 1 + n = i + (n + 1) := by omega
          rw [e3]
          exact h
        · omega
      · rw [if_neg e]
        exact h
end
end Pk
end
section
set_option Elab.async false
set_option linter.all false
set_option maxRecDepth 100000
set_option maxHeartbeats 4000000
namespace Pk
open PySem PySem.Spec PyProof.Rows L2
open Vakepa (Piece Part Prog Raw RawPart)
theorem sIx_in {n d i : Nat} (h : i ≤ n) : HT.sIx n d (some (i : Int)) = i := (HT.sIx_nat n d i).trans (Nat.min_eq_left h)
theorem cutV_iL {l : List Int} {i j : Nat} (h1 : i ≤ j) (h2 : j ≤ l.length) : cutV (iL l) (some (i : Int)) (some (j : Int)) = iL ((l.drop i).take (j - i)) := by
  unfold cutV
  rw [iL_len, sIx_in (d := 0) (i := i) (by omega), sIx_in (d := l.length) (i := j) h2]
  unfold iL
  rw [← List.map_drop, ← List.map_take]
theorem cutV_two {l : List Int} (h : 2 ≤ l.length) : cutV (iL l) (some 2) none = iL (l.drop 2) := by
  unfold cutV
  rw [iL_len, show HT.sIx l.length 0 (some 2) = 2 from sIx_in (i := 2) h]
  have e : HT.sIx l.length l.length none = l.length := rfl
  rw [e]
  unfold iL
  rw [← List.map_drop, List.take_of_length_le (by rw [List.length_map, List.length_drop]; exact Nat.le_refl _)]
/-- what is asked of one call -/
def callOk (cc : List (List Int)) : Bool := PyInside.call PyVakepe.bound cc && VakepeNeutral.asked1 cc
section
variable {P : Program} {w : World} {K : PySem.W.Frag} {mg : Str → Option Value} {base : Heap} {c : Cs}
def spAnsOf (c : Cs) : Sp := fun vs H Q _ => ∃ (hd t : Addr) (o : Vakepe.Obj) (L : List Int) (cc : List (List Int)) (tt : List Int) (G : Hp), vs = [.ref hd, .ref t] ∧ HeldAt c G H hd o ∧ H t = some (.lst (iL (L.take (callLen cc)))) ∧ PyFlat.call PyVakepe.shape L = some (cc, tt) ∧ callOk cc = true ∧
  ansEnds c hd t G H (VakepeNeutral.step o cc).1 (VakepeNeutral.step o cc).2 Q
/-- the list of calls, given; the list of answers -/
structure Asked (l : List Int) (cs : List (List (List Int))) : Prop where
  calls : PyFlat.calls PyVakepe.shape l.length l = some cs
  ok : ∀ x ∈ cs, callOk x = true
  short : (PyFlat.told (PyFlat.played VakepeNeutral.step VakepeNeutral.start cs)).length ≤ 10000000
def spAns (K : PySem.W.Frag) : Sp := fun vs H Q _ => ∃ (a : Addr) (l : List Int) (cs : List (List (List Int))), vs = [.ref a] ∧ SqL K H a (iL l) ∧ l.length ≤ 17000 ∧ Asked l cs ∧ ∀ (H' : Hp) (p : Addr), H' p = some (.lst (iL (PyFlat.told (PyFlat.played VakepeNeutral.step VakepeNeutral.start cs)))) → Q (.ref p) H'
theorem scAns : FnScope ["calls", "held", "told", "at", "after", "answer"] ["calls"] (defScope s_answers) := ⟨rfl, rfl, rfl, by decide +kernel, rfl, by decide +kernel, by decide +kernel⟩
theorem calls_step {f : Nat} {l : List Int} {cs : List (List (List Int))} (h : PyFlat.calls PyVakepe.shape f l = some cs) (hl : l ≠ []) : ∃ f' cc t cs', f = f' + 1 ∧ PyFlat.call PyVakepe.shape l = some (cc, t) ∧ PyFlat.calls PyVakepe.shape f' t = some cs' ∧ cs = cc :: cs' := by
  cases l with
  | nil => exact absurd rfl hl
  | cons p r =>
    cases f with
    | zero => cases h
    | succ f =>
      have h : (match PyFlat.call PyVakepe.shape (p :: r) with
        | none => none
        | some (c, t) => match PyFlat.calls PyVakepe.shape f t with
          | none => none
          | some cs => some (c :: cs)) = some cs := h
      cases q : PyFlat.call PyVakepe.shape (p :: r) with
      | none => rw [q] at h; cases h
      | some ct =>
        obtain ⟨cc, t⟩ := ct
        rw [q] at h
        have h : (match PyFlat.calls PyVakepe.shape f t with
          | none => none
          | some cs => some (cc :: cs)) = some cs := h
        cases q2 : PyFlat.calls PyVakepe.shape f t with
        | none => rw [q2] at h; cases h
        | some cs' =>
          rw [q2] at h
          exact ⟨f, cc, t, cs', rfl, rfl, q2, (Option.some.inj h).symm⟩
theorem told_cons (a : List Int) (r : List (List Int)) : PyFlat.told (a :: r) = (a.length : Int) :: (a ++ PyFlat.told r) := by
  unfold PyFlat.told
  rw [List.flatMap_cons]
  rfl
theorem fn_ans {k : Nat} {f : Addr} {fd : FuncData} (hk : 1 ≤ k) (T : CsT K c) (hl : mg "len" = none) (F : Fun K "answers" "answers" s_answers f fd) (A0 : OkI P w K mg base CX0 1 c.held "Held" ["self"] (spHeldI c)) (A1 : Ok P w K mg base CX0 1 "call_end" ["calls", "at"] (spEnd K)) (A2 : Ok P w K mg base CX0 k "answer_of" ["held", "call"] (spAnsOf c)) :
    FnOk P w K mg base CX0 ((k + 1) + 1) f fd ["calls"] (spAns K) := by
  refine F.ok scAns (fun vs H Q E h => ?_) (fun cdv A outer s0 H vs Q E hr h => ?_)
  · obtain ⟨a, l, cs, rfl, _⟩ := h
    rfl
  · obtain ⟨a, l, cs, rfl, hs, hlen, AS, h⟩ := h
    have hr1 : Room 1 _ := hr.mono (by omega)
    have hrk : Room k _ := hr.mono (by omega)
    refine ⟨_, pss_cons (ps_set (i := 1) scAns.nd rfl (.inl rfl) (ci0 A0 (hr.mono (by omega)) pass0))
      (pss_cons (ps_set (i := 2) scAns.nd rfl (.inl rfl) (pe_lst pa_nil))
      (pss_cons (ps_set (i := 3) scAns.nd rfl (.inl rfl) pe_int)
      (pss_cons (ps_while PassesOwn.never (pt_cmpR op_lt (pv 3) (pe_callB call_len_seq (by rfl) hl PySem.boot_len (pa_cons (pv 0) pa_nil)) (nomark _))
        (pss_cons (ps_set (i := 4) scAns.nd rfl (.inl rfl) (cl A1 hr1 pass0 (pa_cons (pv 0) (pa_cons (pv 3) pa_nil))))
        (pss_cons (ps_set (i := 5) scAns.nd rfl (.inl rfl) (cl A2 hrk pass0 (pa_cons (pv 1) (pa_cons (pe_slice sl_list (pv 0) (po_some (pv 3)) (po_some (pv 4))) pa_nil))))
        (pss_cons (ps_expr (pe_bm PySem.F.plainAttrs_list PySem.F.slot_list_append PySem.F.type_list_append mt_append (pv 2) (pa_cons (pe_callB call_len_seq (by rfl) hl PySem.boot_len (pa_cons (pv 5) pa_nil)) pa_nil)))
        (pss_cons (ps_expr (pe_bm PySem.F.plainAttrs_list PySem.F.slot_list_extend PySem.F.type_list_extend mt_extend (pv 2) (pa_cons (pv 5) pa_nil)))
        (pss_one (ps_set (i := 3) scAns.nd rfl (.inl rfl) (pv 4))))))))
      (pss_one (ps_ret (pv 2)))))), ?_⟩
    have hsz : sizeLine = 16777216 := sizeLine_eq
    refine (fun hd dg hd0 hdg hne => ⟨hd, dg, rfl, upd_same, fun H1 l0 ho fr => ⟨rfl, ?_⟩⟩)
    have S1 := Same.made hd0 hdg fr
    refine ⟨Nat.zero_le _, fun q hq => ?_⟩
    have s2 := S1.trans (Same.new (o := .lst []) hq)
    have hd00 : H hd = none := hd0
    have hq0 : H q = none := S1.free hq
    have nhq : hd ≠ q := ne_of_none ho hq
    refine ⟨fun m σ H' => ∃ (i f : Nat) (o : Vakepe.Obj) (T : List Int) (cs' : List (List (List Int))) (G : Hp) (v4 v5 : Option V), σ = [some (.ref a), some (.ref hd), some (.ref q), some (.int (i : Int)), v4, v5] ∧ Same H H' ∧ HeldAt c G H' hd o ∧ (∀ b u, H b = some u → G b = none) ∧ G q = none ∧ H' q = some (.lst (iL T)) ∧
      i ≤ l.length ∧ PyFlat.calls PyVakepe.shape f (l.drop i) = some cs' ∧ (∀ x ∈ cs', callOk x = true) ∧ T ++ PyFlat.told (PyFlat.played VakepeNeutral.step o cs') = PyFlat.told (PyFlat.played VakepeNeutral.step VakepeNeutral.start cs) ∧ m = l.length - i,
      ⟨_, 0, l.length, none, [], cs, fun _ => none, none, none, rfl, s2, ⟨_, l0, (upd_ne nhq).trans ho, (fun b u z => by cases z), rfl⟩, fun _ _ _ => rfl, rfl, upd_same, Nat.zero_le _, AS.calls, AS.ok, rfl, rfl⟩, ?_⟩
    rintro m σ H2 ⟨i, f, o, T, cs', G, v4, v5, rfl, k1, k2, kH, kG, k3, k4, k5, k6, k7, rfl⟩
    refine ⟨_, rfl, _, rfl, _, _, rfl, .inl (k1.seq hs), _, _, rfl, rfl, _, rfl, ?_⟩
    rw [iL_len]
    refine ited (fun hlt => ?_) (fun hge => ?_)
    · have hil : i < l.length := by omega
      obtain ⟨f', cc, t, cs'', rfl, hc, hcs, rfl⟩ := calls_step k5 (by intro z; have := congrArg List.length z; rw [List.length_drop] at this; simp at this; omega)
      obtain ⟨p0, xs, r0, n0, k0, C⟩ := call_inv hc
      obtain ⟨cl1, cl2⟩ := C.length
      have cl3 := C.drop
      rw [List.length_drop] at cl1
      refine ⟨_, fun _ _ z => z, ?_⟩
      refine ⟨_, rfl, _, rfl, a, i, l, cc, t, rfl, k1.seq hs, hc, ?_⟩
      refine ⟨_, rfl, _, rfl, _, rfl, _, rfl, _, rfl, _, rfl, a, _, rfl, k1.seq hs, fun p hp => ?_⟩
      rw [cutV_iL (by omega) (by omega), Nat.add_sub_cancel_left]
      have s3 := Same.new (o := .lst (iL ((l.drop i).take (callLen cc)))) hp
      refine ⟨hd, p, o, l.drop i, cc, t, G, rfl, k2.same s3, upd_same, hc, k6 cc (List.mem_cons_self ..), fun H4 G' r fr4 ha4 hnew hr0 hr => ?_⟩
      have hq3 := s3 _ _ k3
      have hq4 := fr4 _ _ hq3 (Ne.symm nhq) kG
      have nqr : q ≠ r := ne_of_none hq3 hr0
      have hres : T ++ ((((VakepeNeutral.step o cc).2.length : Nat) : Int) :: ((VakepeNeutral.step o cc).2 ++ PyFlat.told (PyFlat.played VakepeNeutral.step (VakepeNeutral.step o cc).1 cs''))) = PyFlat.told (PyFlat.played VakepeNeutral.step VakepeNeutral.start cs) := by
        rw [← k7, ← told_cons]
        rfl
      have hshort := AS.short
      rw [← hres, List.length_append, List.length_cons, List.length_append] at hshort
      refine ⟨_, rfl, .inl ⟨rfl, _, SqL.of hq4⟩, _, rfl, r, _, rfl, .inl (SqL.of hr), q, _, _, rfl, rfl, hq4, by rw [iL_len]; omega, ?_⟩
      refine ⟨_, rfl, .inl ⟨rfl, _, SqL.of upd_same⟩, _, rfl, q, r, _, _, rfl, rfl, upd_same, (upd_ne (Ne.symm nqr)).trans hr, ?_, ?_⟩
      · rw [List.length_append, iL_len, List.length_map, List.length_singleton]
        omega
      have G'q : G' q = none := by
        cases z : G' q with
        | none => rfl
        | some u =>
          rcases hnew q u z with ⟨_, y⟩ | y | y
          · rw [kG] at y
            cases y
          · rw [hq3] at y
            cases y
          · exact absurd y (ne_of_none k3 hp)
      obtain ⟨sG, Gh⟩ := ha4.sub
      have hs4 : ∀ b u, H b = some u → H4 b = some u := fun b u z => fr4 _ _ (s3 _ _ (k1 _ _ z)) (ne_of_none z hd00) (kH b u z)
      refine ⟨_, rfl, l.length - (i + callLen cc), by omega, i + callLen cc, f', (VakepeNeutral.step o cc).1, T ++ ((((VakepeNeutral.step o cc).2.length : Nat) : Int) :: (VakepeNeutral.step o cc).2), cs'', G', _, _, rfl, fun b u z => ?_, ?_, fun b u z => ?_, G'q, ?_, by omega, ?_, fun x hx => k6 x (List.mem_cons_of_mem _ hx), ?_, rfl⟩
      · rw [upd_ne (ne_of_none z hq0), upd_ne (ne_of_none z hq0)]
        exact hs4 b u z
      · refine ha4.move ?_ fun b u z => ?_
        · rw [upd_ne nhq, upd_ne nhq]
        · rw [upd_ne (ne_of_none z G'q), upd_ne (ne_of_none z G'q)]
          exact sG _ _ z
      · cases y : G' b with
        | none => rfl
        | some v =>
          rcases hnew b v y with ⟨_, y⟩ | y | y
          · rw [kH b u z] at y
            cases y
          · rw [s3 _ _ (k1 _ _ z)] at y
            cases y
          · exact absurd y (ne_of_none (k1 _ _ z) hp)
      · rw [upd_same]
        unfold iL
        rw [List.map_append, List.map_cons, List.length_map, List.append_assoc]
        rfl
      · rw [← List.drop_drop, cl3]
        exact hcs
      · rw [← hres]
        simp
    · have ei : i = l.length := by omega
      subst ei
      rw [List.drop_length] at k5
      have e : cs' = [] := by
        cases f with
        | zero => exact (Option.some.inj k5).symm
        | succ f => exact (Option.some.inj k5).symm
      subst e
      have e2 : T = PyFlat.told (PyFlat.played VakepeNeutral.step VakepeNeutral.start cs) := by
        rw [← k7]
        show T = T ++ []
        rw [List.append_nil]
      rw [e2] at k3
      exact ⟨_, rfl, h H2 q k3⟩
end
end Pk
end
section
set_option Elab.async false
set_option linter.all false
set_option maxRecDepth 100000
set_option maxHeartbeats 4000000
namespace Pk
open PySem PySem.Spec PyProof.Rows L2
open Vakepa (Piece Part Prog Raw RawPart)
/-! ### what each call is due -/
theorem step_load {o : Vakepe.Obj} {b : List Int} (h : NeutralIO.bytes b = true) : VakepeNeutral.step o [[0], b] = loadRes o (VakepeNeutral.bytesOf b) := by
  have e : VakepeNeutral.callOf [[0], b] = some (.load (VakepeNeutral.bytesOf b)) := by
    show (if NeutralIO.bytes b = true then some (Vakepe.Call.load (VakepeNeutral.bytesOf b)) else none) = _
    rw [if_pos h]
  unfold VakepeNeutral.step
  rw [e]
  show ((Vakepe.step o (.load (VakepeNeutral.bytesOf b))).1, VakepeNeutral.encode (Vakepe.step o (.load (VakepeNeutral.bytesOf b))).2) = _
  unfold loadRes Vakepe.step
  cases q : Vakepa.read (VakepeNeutral.bytesOf b) with
  | error f =>
    dsimp only
    rw [q]
    cases o <;> rfl
  | ok p =>
    dsimp only
    rw [q]
    cases o <;> rfl
theorem step_none {cc : List (List Int)} {k : Vakepe.Call} (h : VakepeNeutral.callOf cc = some k) (hl : ∀ b, k ≠ .load b) : VakepeNeutral.step none cc = (none, [-1]) := by
  unfold VakepeNeutral.step
  rw [h]
  cases k with
  | load b => exact absurd rfl (hl b)
  | packs l => rfl
  | cost w => rfl
  | run_ e a => rfl
  | before k => rfl
  | best w f => rfl
  | move_ k n => rfl
  | there e a k => rfl
theorem step_packs {z : Vakepe.Held} {l : List Int} : VakepeNeutral.step (some z) [[1], l] = packsRes z l := rfl
theorem step_cost {z : Vakepe.Held} {w : Int} : VakepeNeutral.step (some z) [[2, w]] = (some z, costRes z w) := rfl
theorem step_run {z : Vakepe.Held} {e a : Int} : VakepeNeutral.step (some z) [[3, e, a]] = (some z, runRes z e a) := rfl
def beforeRes (z : Vakepe.Held) (k : Int) : List Int := VakepeNeutral.encode (Vakepe.looked z (.before k))
def bestRes (z : Vakepe.Held) (w f : Int) : List Int := VakepeNeutral.encode (Vakepe.looked z (.best w f))
def moveRes (z : Vakepe.Held) (k n : Int) : Vakepe.Obj × List Int := ((Vakepe.moveCall z k n).1, VakepeNeutral.encode (Vakepe.moveCall z k n).2)
def thereRes (z : Vakepe.Held) (e a k : Int) : List Int := VakepeNeutral.encode (Vakepe.looked z (.there e a k))
theorem step_before {z : Vakepe.Held} {k : Int} : VakepeNeutral.step (some z) [[4, k]] = (some z, beforeRes z k) := rfl
theorem step_best {z : Vakepe.Held} {w f : Int} : VakepeNeutral.step (some z) [[5, w, f]] = (some z, bestRes z w f) := rfl
theorem step_move {z : Vakepe.Held} {k n : Int} : VakepeNeutral.step (some z) [[6, k, n]] = moveRes z k n := rfl
theorem step_there {z : Vakepe.Held} {e a k : Int} : VakepeNeutral.step (some z) [[7, e, a, k]] = (some z, thereRes z e a k) := rfl
/-- the forms of a call: its flat text -/
inductive Form : List Int → List (List Int) → Prop
  | load (b : List Int) : Form (0 :: (b.length : Int) :: b) [[0], b]
  | packs (l : List Int) : Form (1 :: (l.length : Int) :: l) [[1], l]
  | cost (w : Int) : Form [2, w] [[2, w]]
  | run (e a : Int) : Form [3, e, a] [[3, e, a]]
  | before (k : Int) : Form [4, k] [[4, k]]
  | best (w f : Int) : Form [5, w, f] [[5, w, f]]
  | move (k n : Int) : Form [6, k, n] [[6, k, n]]
  | there (e a k : Int) : Form [7, e, a, k] [[7, e, a, k]]
theorem len_two {l : List Int} (h : l.length = 2) : ∃ a b, l = [a, b] := by
  match l, h with
  | [a, b], _ => exact ⟨a, b, rfl⟩
theorem len_one {l : List Int} (h : l.length = 1) : ∃ a, l = [a] := by
  match l, h with
  | [a], _ => exact ⟨a, rfl⟩
theorem len_three {l : List Int} (h : l.length = 3) : ∃ a b d, l = [a, b, d] := by
  match l, h with
  | [a, b, d], _ => exact ⟨a, b, d, rfl⟩
theorem form_of {L : List Int} {cc : List (List Int)} {tt : List Int} (h : PyFlat.call PyVakepe.shape L = some (cc, tt)) : Form (L.take (callLen cc)) cc := by
  obtain ⟨p, xs, r, n, k, C⟩ := call_inv h
  have hp := C.p8
  have hn := C.nt
  have hk := C.rt
  have hl := C.len
  have e := C.eq
  rcases C.rest with ⟨k0, hc, ht⟩ | ⟨k1, m, s, hr, hm, hc, ht⟩
  · subst k0 hc ht e
    have el : callLen [(p : Int) :: xs] = xs.length + 1 := by unfold callLen; simp
    rw [el, List.take_succ_cons, List.take_left]
    match p, hp with
    | 0, _ => cases hk
    | 1, _ => cases hk
    | 2, _ =>
      have e1 : n = 1 := (Option.some.inj hn).symm
      obtain ⟨a, rfl⟩ := len_one (hl.trans e1)
      exact .cost a
    | 3, _ =>
      have e1 : n = 2 := (Option.some.inj hn).symm
      obtain ⟨a, b, rfl⟩ := len_two (hl.trans e1)
      exact .run a b
    | 4, _ =>
      have e1 : n = 1 := (Option.some.inj hn).symm
      obtain ⟨a, rfl⟩ := len_one (hl.trans e1)
      exact .before a
    | 5, _ =>
      have e1 : n = 2 := (Option.some.inj hn).symm
      obtain ⟨a, b, rfl⟩ := len_two (hl.trans e1)
      exact .best a b
    | 6, _ =>
      have e1 : n = 2 := (Option.some.inj hn).symm
      obtain ⟨a, b, rfl⟩ := len_two (hl.trans e1)
      exact .move a b
    | 7, _ =>
      have e1 : n = 3 := (Option.some.inj hn).symm
      obtain ⟨a, b, d, rfl⟩ := len_three (hl.trans e1)
      exact .there a b d
  · subst k1 hc ht hr e
    have el : callLen [(p : Int) :: xs, s.take m] = (xs.length + (m + 1)) + 1 := by
      unfold callLen
      simp
      omega
    have sl : (s.take m).length = m := by rw [List.length_take]; omega
    match p, hp with
    | 0, _ =>
      have e1 : n = 0 := (Option.some.inj hn).symm
      have e2 : xs = [] := List.length_eq_zero_iff.mp (hl.trans e1)
      subst e2
      have e3 : (((0 : Nat) : Int) :: ([] ++ ((m : Int) :: s))).take (callLen [((0 : Nat) : Int) :: [], s.take m]) = 0 :: ((s.take m).length : Int) :: s.take m := by
        rw [el, sl]
        simp
      rw [e3]
      exact .load _
    | 1, _ =>
      have e1 : n = 0 := (Option.some.inj hn).symm
      have e2 : xs = [] := List.length_eq_zero_iff.mp (hl.trans e1)
      subst e2
      have e3 : (((1 : Nat) : Int) :: ([] ++ ((m : Int) :: s))).take (callLen [((1 : Nat) : Int) :: [], s.take m]) = 1 :: ((s.take m).length : Int) :: s.take m := by
        rw [el, sl]
        simp
      rw [e3]
      exact .packs _
    | 2, _ => cases hk
    | 3, _ => cases hk
    | 4, _ => cases hk
    | 5, _ => cases hk
    | 6, _ => cases hk
    | 7, _ => cases hk
theorem whole_id (c : List (List Int)) : PyVakepe.whole c = c := by
  unfold PyVakepe.whole
  split <;> rfl
theorem asked_is {l : List Int} (h : PyVakepe.answers_asked l = true) : ∃ cs, Asked l cs ∧ PyVakepe.answers l = PyFlat.told (PyFlat.played VakepeNeutral.step VakepeNeutral.start cs) := by
  unfold PyVakepe.answers_asked at h
  cases q : PyFlat.calls PyVakepe.shape l.length l with
  | none => rw [q] at h; cases h
  | some cs =>
    rw [q] at h
    have h : (!cs.isEmpty && PyFlat.atMost 20 cs && PyInside.calls PyVakepe.bound cs && VakepeNeutral.asked (cs.map PyVakepe.whole) && PyFlat.short 10000000 (PyVakepe.answers l)) = true := h
    have e : PyVakepe.answers l = PyFlat.told (PyFlat.played VakepeNeutral.step VakepeNeutral.start cs) := by
      unfold PyVakepe.answers PyVakepe.calls
      rw [q]
      show PyFlat.told (PyFlat.played VakepeNeutral.step VakepeNeutral.start (cs.map PyVakepe.whole)) = _
      have : cs.map PyVakepe.whole = cs := by
        have : (PyVakepe.whole : List (List Int) → List (List Int)) = id := funext whole_id
        rw [this, List.map_id]
      rw [this]
    have ew : cs.map PyVakepe.whole = cs := by
      have : (PyVakepe.whole : List (List Int) → List (List Int)) = id := funext whole_id
      rw [this, List.map_id]
    rw [ew] at h
    simp only [Bool.and_eq_true] at h
    obtain ⟨⟨⟨_, h3⟩, h4⟩, h5⟩ := h
    refine ⟨cs, ⟨q, fun x hx => ?_, ?_⟩, e⟩
    · unfold callOk
      rw [Bool.and_eq_true]
      refine ⟨List.all_eq_true.mp h3 x hx, ?_⟩
      unfold VakepeNeutral.asked at h4
      rw [Bool.and_eq_true] at h4
      exact List.all_eq_true.mp h4.1 x hx
    · rw [← e]
      exact of_decide_eq_true h5
/-- the bytes of a load -/
theorem load_bytes {b : List Int} (h : callOk [[0], b] = true) : NeutralIO.bytes b = true ∧ b.length ≤ 8192 ∧ iL b = bL (VakepeNeutral.bytesOf b) ∧ (VakepeNeutral.bytesOf b).length = b.length := by
  unfold callOk at h
  rw [Bool.and_eq_true] at h
  have h2 : ((b.all fun (z : Int) => VakepeNeutral.natural z 8) && decide (b.length ≤ 8192)) = true := h.2
  rw [Bool.and_eq_true, decide_eq_true_eq] at h2
  have hb : ∀ z ∈ b, 0 ≤ z ∧ z < 256 := fun z hz => by
    have := List.all_eq_true.mp h2.1 z hz
    unfold VakepeNeutral.natural at this
    rw [Bool.and_eq_true, decide_eq_true_eq, decide_eq_true_eq] at this
    exact this
  refine ⟨List.all_eq_true.mpr fun z hz => ?_, h2.2, ?_, List.length_map ..⟩
  · have := hb z hz
    rw [Bool.and_eq_true, decide_eq_true_eq, decide_eq_true_eq]
    omega
  · unfold iL bL VakepeNeutral.bytesOf
    rw [List.map_map]
    refine List.map_congr_left fun z hz => ?_
    have := hb z hz
    show V.int z = V.int (((UInt8.ofNat z.toNat).toNat : Nat) : Int)
    have e : (UInt8.ofNat z.toNat).toNat = z.toNat := by
      show z.toNat % 256 = z.toNat
      omega
    rw [e, Int.toNat_of_nonneg this.1]
end Pk
end
section
set_option Elab.async false
set_option linter.all false
set_option maxRecDepth 100000
set_option maxHeartbeats 4000000
namespace Pk
open Vakepa (Piece Part Prog Raw RawPart)
/-! ### best always finds a plan -/
def lean1 (need : List Nat) : Nat → Nat → List Nat
  | 0, _ => []
  | n + 1, k => (if need.contains k = true then 1 else 3) :: lean1 need n (k + 1)
theorem lean1_in (need : List Nat) : ∀ n k, lean1 need n k ∈ Vakepe.plansBy need n k
  | 0, _ => List.mem_singleton.mpr rfl
  | n + 1, k => by
    show _ ∈ (if need.contains k = true then [0, 1, 2] else [3]).flatMap fun x => (Vakepe.plansBy need n (k + 1)).map fun r => x :: r
    refine List.mem_flatMap.mpr ⟨if need.contains k = true then 1 else 3, ?_, List.mem_map.mpr ⟨_, lean1_in need n (k + 1), rfl⟩⟩
    by_cases q : need.contains k = true
    · rw [if_pos q, if_pos q]
      decide
    · rw [if_neg q, if_neg q]
      decide
theorem lean1_pos (need : List Nat) : ∀ n k, ∀ x ∈ lean1 need n k, x ≠ 0
  | 0, _, x, h => by cases h
  | n + 1, k, x, h => by
    have h : x ∈ (if need.contains k = true then 1 else 3) :: lean1 need n (k + 1) := h
    rcases List.mem_cons.mp h with z | z
    · rw [z]
      by_cases q : need.contains k = true
      · rw [if_pos q]
        decide
      · rw [if_neg q]
        decide
    · exact lean1_pos need n (k + 1) x z
theorem size0 {p : Prog} {l : List Nat} (hl : l.length = p.parts.length) (h : ∀ x ∈ l, x ≠ 0) : Vakepe.packSize p l 0 = 0 := by
  have e : Vakepe.partsIn p l 0 = [] := by
    unfold Vakepe.partsIn
    refine List.filter_eq_nil_iff.mpr fun k hk => ?_
    have hk := List.mem_range.mp hk
    have hx : l[k]? = some l[k] := List.getElem?_eq_getElem (by omega)
    rw [packOf_at hx]
    simpa using h _ (List.mem_of_getElem? hx)
  unfold Vakepe.packSize
  rw [e]
  rfl
theorem bstep_some {f : List Nat → Nat} : ∀ {ls : List (List Nat)} {x : Nat × List Nat}, ∃ y, ls.foldl (bstep f) (some x) = some y
  | [], x => ⟨x, rfl⟩
  | a :: r, x => by
    rw [List.foldl_cons]
    show ∃ y, r.foldl (bstep f) (if f a < x.1 then some (f a, a) else some x) = some y
    by_cases q : f a < x.1
    · rw [if_pos q]
      exact bstep_some
    · rw [if_neg q]
      exact bstep_some
theorem best_some (p : Prog) (w first : Nat) : ∃ x, Vakepe.bestPacks p w first = some x := by
  rw [best_is]
  have hm : lean1 (Vakepa.unionOf p (Vakepa.reached p)) p.parts.length 0 ∈ (Vakepe.plans p).filter fun l => decide (Vakepe.packSize p l 0 ≤ first) := by
    refine List.mem_filter.mpr ⟨lean1_in _ _ _, ?_⟩
    rw [size0 (plansBy_len _ _ _ _ (lean1_in _ _ _)) (lean1_pos _ _ _)]
    exact decide_eq_true (Nat.zero_le _)
  cases q : (Vakepe.plans p).filter fun l => decide (Vakepe.packSize p l 0 ≤ first) with
  | nil =>
    rw [q] at hm
    cases hm
  | cons a r =>
    rw [List.foldl_cons]
    exact bstep_some (x := (_, a))
/-! ### the answers of stage 2's calls -/
theorem moveRes_k {z : Vakepe.Held} {k n : Int} (h : ¬ (0 ≤ k ∧ k < (z.p.parts.length : Int))) : moveRes z k n = (some z, [-4]) := by
  unfold moveRes Vakepe.moveCall
  rw [index_out h]
  rfl
theorem moveRes_n {z : Vakepe.Held} {k : Nat} {n : Int} (hk : k < z.p.parts.length) (h : ¬ (0 ≤ n ∧ n < 4)) : moveRes z (k : Int) n = (some z, [-6]) := by
  unfold moveRes Vakepe.moveCall
  rw [index_in hk, index_out (show ¬ (0 ≤ n ∧ n < (Vakepe.PACKS : Int)) from h)]
  rfl
theorem moveRes_ok {z : Vakepe.Held} {k n : Nat} (hk : k < z.p.parts.length) (h : n < 4) : moveRes z (k : Int) (n : Int) = (some ⟨z.p, z.l.set k n⟩, 1 :: (Vakepe.sizesOf z.p (z.l.set k n)).map fun (n : Nat) => (n : Int)) := by
  unfold moveRes Vakepe.moveCall
  rw [index_in hk, index_in (show n < Vakepe.PACKS from h)]
  rfl
theorem PlanOk.set {p : Prog} {l : List Nat} (O : PlanOk p l) {k n : Nat} (h : n < 4) : PlanOk p (l.set k n) := ⟨by rw [List.length_set]; exact O.len, fun x hx => by
  rcases List.mem_or_eq_of_mem_set hx with q | q
  · exact O.lt x q
  · rw [q]
    exact h⟩
theorem beforeRes_k {z : Vakepe.Held} {k : Int} (h : ¬ (0 ≤ k ∧ k < (z.p.parts.length : Int))) : beforeRes z k = [-4] := by
  unfold beforeRes
  show VakepeNeutral.encode (match VakepBase.index k z.p.parts.length with
    | none => VakepBase.one (-4)
    | some i => ⟨((Vakepe.beforeOf z.p i).1 : Int), Vakepe.listRow (Vakepe.beforeOf z.p i).2⟩) = _
  rw [index_out h]
  rfl
theorem beforeRes_ok {z : Vakepe.Held} {k : Nat} (h : k < z.p.parts.length) : beforeRes z (k : Int) = ((Vakepe.beforeOf z.p k).1 : Int) :: ((Vakepe.beforeOf z.p k).2.length : Int) :: (Vakepe.beforeOf z.p k).2.map fun (n : Nat) => (n : Int) := by
  unfold beforeRes
  show VakepeNeutral.encode (match VakepBase.index (k : Int) z.p.parts.length with
    | none => VakepBase.one (-4)
    | some i => ⟨((Vakepe.beforeOf z.p i).1 : Int), Vakepe.listRow (Vakepe.beforeOf z.p i).2⟩) = _
  rw [index_in h]
  rfl
theorem bestRes_w {z : Vakepe.Held} {w f : Int} (h : ¬ (0 ≤ w ∧ w ≤ 1000)) : bestRes z w f = [-5] := by
  unfold bestRes
  show VakepeNeutral.encode (Vakepe.withCost w _) = _
  unfold Vakepe.withCost
  rw [if_pos (by show w < 0 ∨ (1000 : Int) < w; omega)]
  rfl
theorem bestRes_f {z : Vakepe.Held} {w : Nat} {f : Int} (hw : w ≤ 1000) (h : ¬ (0 ≤ f ∧ f ≤ 1000)) : bestRes z (w : Int) f = [-5] := by
  unfold bestRes
  show VakepeNeutral.encode (Vakepe.withCost (w : Int) fun c => Vakepe.withCost f _) = _
  unfold Vakepe.withCost
  rw [if_neg (by show ¬ ((w : Int) < 0 ∨ (1000 : Int) < w); omega), if_pos (by show f < 0 ∨ (1000 : Int) < f; omega)]
  rfl
theorem withCost_ok {w : Nat} {f : Nat → VakepBase.Answer} (h : w ≤ 1000) : Vakepe.withCost (w : Int) f = f w := by
  unfold Vakepe.withCost
  rw [if_neg (by show ¬ ((w : Int) < 0 ∨ (1000 : Int) < w); omega), Int.toNat_natCast]
theorem bestRes_ok {z : Vakepe.Held} {w f : Nat} (hw : w ≤ 1000) (hf : f ≤ 1000) : bestRes z (w : Int) (f : Int) = if Vakepe.tooMuch z.p = true then [-7] else match Vakepe.bestPacks z.p w f with
    | none => [-8]
    | some x => (x.1 : Int) :: x.2.map fun (n : Nat) => (n : Int) := by
  unfold bestRes
  show VakepeNeutral.encode (Vakepe.withCost (w : Int) fun c => Vakepe.withCost (f : Int) fun g => if Vakepe.tooMuch z.p = true then VakepBase.one (-7) else match Vakepe.bestPacks z.p c g with
    | none => VakepBase.one (-8)
    | some x => ⟨(x.1 : Int), Vakepe.nats x.2⟩) = _
  rw [withCost_ok hw, withCost_ok hf]
  by_cases q : Vakepe.tooMuch z.p = true
  · rw [if_pos q, if_pos q]
    rfl
  · rw [if_neg q, if_neg q]
    cases Vakepe.bestPacks z.p w f with
    | none => rfl
    | some x => rfl
end Pk
end
section
set_option Elab.async false
set_option linter.all false
set_option maxRecDepth 100000
set_option maxHeartbeats 4000000
namespace Pk
open Vakepa (Piece Part Prog Raw RawPart)
theorem thereRes_e {z : Vakepe.Held} {e a k : Int} (h : ¬ (0 ≤ e ∧ e < (z.p.starts.length : Int))) : thereRes z e a k = [-2] := by
  unfold thereRes
  show VakepeNeutral.encode (Vakepe.withRun z.p e a _) = _
  rw [withRun_e h]
  rfl
theorem thereRes_a {z : Vakepe.Held} {i s : Nat} {a k : Int} (hs : z.p.starts[i]? = some s) (h : ¬ (0 ≤ a ∧ a < (Vakepa.total z.p : Int))) : thereRes z (i : Int) a k = [-3] := by
  unfold thereRes
  show VakepeNeutral.encode (Vakepe.withRun z.p (i : Int) a _) = _
  rw [withRun_a hs h]
  rfl
/-- with which load a pack came, from 0; -1 if none -/
def loadNo (ls : List (Nat × Nat)) (n : Nat) : Int := match ls.findIdx? fun x => x.2 == n with
  | none => -1
  | some j => (j : Int)
def isThere (ls : List (Nat × Nat)) (n : Nat) : Bool := decide (n = 0) || ls.any fun x => x.2 == n
theorem thereRes_k {z : Vakepe.Held} {i s n : Nat} {k : Int} (hs : z.p.starts[i]? = some s) (hn : n < Vakepa.total z.p) (h : ¬ (0 ≤ k ∧ k < (z.p.parts.length : Int))) : thereRes z (i : Int) (n : Int) k = [-4] := by
  unfold thereRes
  show VakepeNeutral.encode (Vakepe.withRun z.p (i : Int) (n : Int) _) = _
  rw [withRun_ok hs hn]
  dsimp only
  rw [index_out h]
  rfl
theorem thereRes_ok {z : Vakepe.Held} {i s n k : Nat} (hs : z.p.starts[i]? = some s) (hn : n < Vakepa.total z.p) (h : k < z.p.parts.length) : thereRes z (i : Int) (n : Int) (k : Int) =
    [(if isThere (Vakepe.loadBy z.l [0] (Vakepa.run z.p [] s (Vakepa.valuesOf z.p n)).entered) (Vakepe.packOf z.l k) = true then 1 else 0), loadNo (Vakepe.loadBy z.l [0] (Vakepa.run z.p [] s (Vakepa.valuesOf z.p n)).entered) (Vakepe.packOf z.l k)] := by
  unfold thereRes
  show VakepeNeutral.encode (Vakepe.withRun z.p (i : Int) (n : Int) _) = _
  rw [withRun_ok hs hn]
  dsimp only
  rw [index_in h]
  show [_, _] = [_, _]
  congr 1
  unfold isThere
  simp only [Bool.or_eq_true, decide_eq_true_eq]
  rfl
end Pk
end
section
set_option Elab.async false
set_option linter.all false
set_option maxRecDepth 100000
set_option maxHeartbeats 4000000
namespace Pk
open PySem PySem.Spec PyProof.Rows L2
open Vakepa (Piece Part Prog Raw RawPart)
theorem loadNo_in {pk : Nat} : ∀ {ls : List (Nat × Nat)} {j : Nat}, (ls.map fun x => x.2)[j]? = some pk → (∀ m x, m < j → (ls.map fun x => x.2)[m]? = some x → x ≠ pk) → (ls.findIdx? fun x => x.2 == pk) = some j ∧ (ls.any fun x => x.2 == pk) = true
  | [], j, h, _ => by simp at h
  | a :: r, 0, h, _ => by
    have e : a.2 = pk := Option.some.inj h
    rw [List.findIdx?_cons, List.any_cons, e]
    simp
  | a :: r, j + 1, h, h1 => by
    have h : (r.map fun x => x.2)[j]? = some pk := h
    have ha : a.2 ≠ pk := h1 0 a.2 (Nat.succ_pos _) rfl
    obtain ⟨i1, i2⟩ := loadNo_in h fun m x hm hx => h1 (m + 1) x (by omega) hx
    rw [List.findIdx?_cons, List.any_cons, i1, i2, if_neg (by simpa using ha)]
    simp
theorem loadNo_out {ls : List (Nat × Nat)} {pk : Nat} (h : (ls.map fun x => x.2).contains pk = false) : (ls.findIdx? fun x => x.2 == pk) = none ∧ (ls.any fun x => x.2 == pk) = false := by
  have h0 : ∀ x ∈ ls, ¬ (x.2 == pk) = true := fun x hx e => by
    have : pk ∈ ls.map fun x => x.2 := List.mem_map.mpr ⟨x, hx, by simpa using e⟩
    rw [← List.contains_iff_mem, h] at this
    cases this
  refine ⟨List.findIdx?_eq_none_iff.mpr fun x hx => by simpa using h0 x hx, ?_⟩
  rw [List.any_eq_false]
  exact h0
section
variable {P : Program} {w : World} {K : PySem.W.Frag} {mg : Str → Option Value} {base : Heap} {c : Cs}
/-! ### before_answer -/
def spBeforeA (c : Cs) : Sp := fun vs H Q _ => ∃ (hd : Addr) (z : Vakepe.Held) (k : Int) (G : Hp), vs = [.ref hd, .int k] ∧ HeldAt c G H hd (some z) ∧ newEnds H (beforeRes z k) Q
theorem scBeforeA : FnScope ["held", "part", "leads", "sure"] ["held", "part"] (defScope s_before_answer) := ⟨rfl, rfl, rfl, by decide +kernel, rfl, by decide +kernel, by decide +kernel⟩
theorem ok_beforeA (T : CsT K c) (hl : mg "len" = none) (g4 : GI mg "NO_PART" (-4)) (D : DefAt K mg "before_answer" s_before_answer) (A0 : Ok P w K mg base CX0 1 "is_one_of" ["number", "count"] spIsOne) (A1 : Ok P w K mg base CX0 85 "all_entered" ["program"] (spAllEnt c))
    (A2 : Ok P w K mg base CX0 1 "leads_to" ["all_runs", "part"] (spLeads K)) (A3 : Ok P w K mg base CX0 1 "parts_in_each" ["leads"] (spEach K)) : Ok P w K mg base CX0 86 "before_answer" ["held", "part"] (spBeforeA c) := by
  refine Ok.mk' D (fun f fd F => (F.ok scBeforeA (fun vs H Q E h => ?_) (fun cdv A outer s0 H vs Q E hr h => ?_) : FnOk P w K mg base CX0 (85 + 1) f fd _ _)) (fun _ _ _ _ _ _ us hl => match us, hl with | [_, _], _ => rfl)
  · obtain ⟨hd, z, k, G, rfl, _⟩ := h
    rfl
  · obtain ⟨hd, z, k, G, rfl, HA, h⟩ := h
    have hr1 : Room 1 _ := hr.mono (by decide)
    refine ⟨_, pss_cons (ps_if (pt_not (pt_val (cl A0 hr1 pass0 (pa_cons (pv 1) (pa_cons (pe_callB call_len_seq (by rfl) hl PySem.boot_len (pa_cons (pe_fld (pe_fld (pv 0) rfl) rfl) pa_nil)) pa_nil))))) (pss_one (ps_ret (pe_lst (pa_cons (gi g4) pa_nil)))) pss_nil)
      (pss_cons (ps_set (i := 2) scBeforeA.nd rfl (.inl rfl) (cl A2 hr1 pass0 (pa_cons (cl A1 hr pass0 (pa_cons (pe_fld (pv 0) rfl) pa_nil)) (pa_cons (pv 1) pa_nil))))
      (pss_cons (ps_set (i := 3) scBeforeA.nd rfl (.inl rfl) (cl A3 hr1 pass0 (pa_cons (pv 2) pa_nil)))
      (pss_one (ps_ret (pe_op op_cat (pe_lst (pa_cons (pe_callB call_len_seq (by rfl) hl PySem.boot_len (pa_cons (pv 2) pa_nil)) (pa_cons (pe_callB call_len_seq (by rfl) hl PySem.boot_len (pa_cons (pv 3) pa_nil)) pa_nil))) (pv 3)))))), ?_⟩
    have hsz : sizeLine = 16777216 := sizeLine_eq
    obtain ⟨dx, g, l0, pa, kvs, os, h1, h2, h3, PAt0, W, h60, PO⟩ := HA.all
    have PAt := PAt0.same h2
    obtain ⟨gx, hg⟩ := PAt.obj
    obtain ⟨ol1, ol2⟩ := orders_len W
    have hp10 := W.p10
    refine ⟨_, rfl, _, rfl, hd, c.held, dx, _, _, rfl, h1, T.held.cl, T.held.no _ (by decide), heldF_p, g, c.prog, gx, _, _, rfl, hg, T.prog.cl, T.prog.no _ (by decide), progF_p, _, _, rfl, .inl (SqL.of PAt.lp), k, _, rfl, _, rfl, ?_⟩
    rw [List.length_map, PAt.parts.len]
    by_cases good : 0 ≤ k ∧ k < (z.p.parts.length : Int)
    case neg =>
      rw [decide_eq_false good]
      refine iteT ?_
      rw [beforeRes_k good] at h
      exact ⟨by show 1 ≤ sizeLine; omega, fun p hp => h _ p (Same.new hp) hp upd_same⟩
    case pos =>
      rw [decide_eq_true good]
      refine iteF ?_
      obtain ⟨n, rfl⟩ := Int.eq_ofNat_of_zero_le good.1
      have hn : n < z.p.parts.length := by have := good.2; omega
      rw [beforeRes_ok hn, before_is] at h
      refine ⟨_, rfl, hd, c.held, dx, _, _, rfl, h1, T.held.cl, T.held.no _ (by decide), heldF_p, g, pa, z.p, kvs, os, rfl, PAt, W, fun Hr rr sr hrr0 hrr hrok => ?_⟩
      refine ⟨_, rfl, rr, runsOf z.p, n, rfl, hrr, by unfold runsOf; rw [List.length_map]; omega, fun H2 ll s2 hll0 hll => ?_⟩
      have hlok : ∀ es ∈ leadsOf n (runsOf z.p), LsOk z.p.parts.length es := fun es he => by
        unfold leadsOf at he
        obtain ⟨r, hr2, rfl⟩ := List.mem_map.mp he
        have RO := hrok r (List.mem_filter.mp hr2).1
        exact ⟨fun x hx => RO.lt x (lead_sub hx).1, lead_nodup RO.nd⟩
      refine ⟨_, rfl, ll, leadsOf n (runsOf z.p), z.p.parts.length, rfl, hll, hlok, hp10, fun H3 su s3 hsu0 hsu => ?_⟩
      have hll3 := hll.same s3
      obtain ⟨as, k0, k1, k2⟩ := id hll3
      refine ⟨_, rfl, ll, _, rfl, .inl (SqL.of k1), _, rfl, su, _, rfl, .inl (SqL.of hsu), by show 2 ≤ sizeLine; omega, fun q1 hq1 => ?_⟩
      have s4 := Same.new (o := .lst [V.int ((as.map V.ref).length : Int), V.int ((nL (secOf z.p.parts.length (leadsOf n (runsOf z.p)))).length : Int)]) hq1
      refine ⟨_, rfl, q1, su, _, _, rfl, rfl, upd_same, s4 _ _ hsu, ?_, fun q hq => ?_⟩
      · rw [nL_len]
        have := List.length_filter_le (fun j => !(leadsOf n (runsOf z.p)).isEmpty && (leadsOf n (runsOf z.p)).all fun es => es.contains j) (List.range z.p.parts.length)
        rw [List.length_range] at this
        show 2 + (secOf z.p.parts.length (leadsOf n (runsOf z.p))).length ≤ sizeLine
        unfold secOf
        omega
      · have s14 := (sr.trans s2).trans (s3.trans s4)
        refine h _ q (s14.trans (Same.new hq)) (s14.free hq) ?_
        rw [upd_same, List.length_map, k2.len, nL_len]
        unfold iL nL
        rw [List.map_cons, List.map_cons, List.map_map]
        rfl
/-! ### best_answer -/
def spBestA (c : Cs) : Sp := fun vs H Q _ => ∃ (hd : Addr) (z : Vakepe.Held) (m f : Int) (G : Hp), vs = [.ref hd, .int m, .int f] ∧ HeldAt c G H hd (some z) ∧ newEnds H (bestRes z m f) Q
theorem scBestA : FnScope ["held", "more", "first", "program", "all_runs", "reached"] ["held", "more", "first"] (defScope s_best_answer) := ⟨rfl, rfl, rfl, by decide +kernel, rfl, by decide +kernel, by decide +kernel⟩
theorem reached_same {p : Prog} {rs : List (List Nat)} (h : rs = runsOf p) (hok : ∀ es ∈ rs, LsOk p.parts.length es) : (∀ k, (metOf rs).contains k = (Vakepa.unionOf p (Vakepa.reached p)).contains k) ∧ (metOf rs).length = (reachedAll p).length := by
  have hm : ∀ k, k ∈ metOf rs ↔ k ∈ reachedAll p := fun k => by
    rw [met_mem]
    unfold reachedAll enteredIn
    rw [List.mem_filter, List.mem_range, List.any_eq_true]
    constructor
    · rintro ⟨es, he, hk⟩
      refine ⟨(hok es he).lt k hk, ?_⟩
      rw [h] at he
      unfold runsOf at he
      obtain ⟨o, ho, rfl⟩ := List.mem_map.mp he
      exact ⟨o, ho, List.contains_iff_mem.mpr hk⟩
    · rintro ⟨_, o, ho, hk⟩
      refine ⟨o.l, ?_, List.contains_iff_mem.mp hk⟩
      rw [h]
      exact List.mem_map.mpr ⟨o, ho, rfl⟩
  refine ⟨fun k => ?_, ?_⟩
  · rw [union_is, Bool.eq_iff_iff, List.contains_iff_mem, List.contains_iff_mem]
    exact hm k
  · have n1 : (metOf rs).Nodup := met_nodup fun es he => (hok es he).nd
    have n2 : (reachedAll p).Nodup := List.nodup_range.filter _
    exact ((List.perm_ext_iff_of_nodup n1 n2).mpr hm).length_eq
theorem ok_bestA (T : CsT K c) (hl : mg "len" = none) (g5 : GI mg "BAD_COST" (-5)) (g7 : GI mg "TOO_MUCH" (-7)) (gr : GI mg "MOST_RUNS" 32) (gm : GI mg "MOST_REACHED" 6) (D : DefAt K mg "best_answer" s_best_answer) (A0 : Ok P w K mg base CX0 1 "is_cost" ["number"] spIsCost) (A1 : Ok P w K mg base CX0 85 "all_entered" ["program"] (spAllEnt c))
    (A2 : Ok P w K mg base CX0 1 "assignment_count" ["program"] (spCount c)) (A3 : Ok P w K mg base CX0 1 "reached_parts" ["all_runs"] (spReached K)) (A4 : Ok P w K mg base CX0 3 "best_plan" ["program", "all_runs", "reached", "more", "first"] (spBest K c)) :
    Ok P w K mg base CX0 86 "best_answer" ["held", "more", "first"] (spBestA c) := by
  refine Ok.mk' D (fun f fd F => (F.ok scBestA (fun vs H Q E h => ?_) (fun cdv A outer s0 H vs Q E hr h => ?_) : FnOk P w K mg base CX0 (85 + 1) f fd _ _)) (fun _ _ _ _ _ _ us hl => match us, hl with | [_, _, _], _ => rfl)
  · obtain ⟨hd, z, m, f, G, rfl, _⟩ := h
    rfl
  · obtain ⟨hd, z, m, f, G, rfl, HA, h⟩ := h
    have hr1 : Room 1 _ := hr.mono (by decide)
    have hr3 : Room 3 _ := hr.mono (by decide)
    refine ⟨_, pss_cons (ps_if (PW.pt (pw_or (pt_not (pt_val (cl A0 hr1 pass0 (pa_cons (pv 1) pa_nil)))) (pw_or1 (pt_not (pt_val (cl A0 hr1 pass0 (pa_cons (pv 2) pa_nil))))))) (pss_one (ps_ret (pe_lst (pa_cons (gi g5) pa_nil)))) pss_nil)
      (pss_cons (ps_set (i := 3) scBestA.nd rfl (.inl rfl) (pe_fld (pv 0) rfl))
      (pss_cons (ps_if (pt_cmpR op_gt (pe_op op_mul (pe_callB call_len_seq (by rfl) hl PySem.boot_len (pa_cons (pe_fld (pv 3) rfl) pa_nil)) (cl A2 hr1 pass0 (pa_cons (pv 3) pa_nil))) (gi gr) (nomark _)) (pss_one (ps_ret (pe_lst (pa_cons (gi g7) pa_nil)))) pss_nil)
      (pss_cons (ps_set (i := 4) scBestA.nd rfl (.inl rfl) (cl A1 hr pass0 (pa_cons (pv 3) pa_nil)))
      (pss_cons (ps_set (i := 5) scBestA.nd rfl (.inl rfl) (cl A3 hr1 pass0 (pa_cons (pv 4) pa_nil)))
      (pss_cons (ps_if (pt_cmpR op_gt (pe_callB call_len_seq (by rfl) hl PySem.boot_len (pa_cons (pv 5) pa_nil)) (gi gm) (nomark _)) (pss_one (ps_ret (pe_lst (pa_cons (gi g7) pa_nil)))) pss_nil)
      (pss_one (ps_ret (cl A4 hr3 pass0 (pa_cons (pv 3) (pa_cons (pv 4) (pa_cons (pv 5) (pa_cons (pv 1) (pa_cons (pv 2) pa_nil))))))))))))), ?_⟩
    have hsz : sizeLine = 16777216 := sizeLine_eq
    obtain ⟨dx, g, l0, pa, kvs, os, h1, h2, h3, PAt0, W, h60, PO⟩ := HA.all
    have PAt := PAt0.same h2
    obtain ⟨gx, hg⟩ := PAt.obj
    obtain ⟨ht1, ht2⟩ := total_le W
    obtain ⟨ol1, ol2⟩ := orders_len W
    have hp10 := W.p10
    have he4 := W.e4
    refine ⟨_, rfl, m, rfl, _, rfl, ?_⟩
    by_cases good1 : 0 ≤ m ∧ m ≤ 1000
    case neg =>
      rw [decide_eq_false good1]
      refine iteT ?_
      refine iteT ?_
      rw [bestRes_w good1] at h
      exact ⟨by show 1 ≤ sizeLine; omega, fun p hp => h _ p (Same.new hp) hp upd_same⟩
    case pos =>
      rw [decide_eq_true good1]
      refine iteF ?_
      obtain ⟨mn, rfl⟩ := Int.eq_ofNat_of_zero_le good1.1
      have hmn : mn ≤ 1000 := by have := good1.2; omega
      refine ⟨_, rfl, f, rfl, _, rfl, ?_⟩
      by_cases good2 : 0 ≤ f ∧ f ≤ 1000
      case neg =>
        rw [decide_eq_false good2]
        refine iteT ?_
        rw [bestRes_f hmn good2] at h
        exact ⟨by show 1 ≤ sizeLine; omega, fun p hp => h _ p (Same.new hp) hp upd_same⟩
      case pos =>
        rw [decide_eq_true good2]
        refine iteF ?_
        obtain ⟨fn, rfl⟩ := Int.eq_ofNat_of_zero_le good2.1
        have hfn : fn ≤ 1000 := by have := good2.2; omega
        rw [bestRes_ok hmn hfn, tooMuch_is] at h
        refine ⟨_, rfl, hd, c.held, dx, _, _, rfl, h1, T.held.cl, T.held.no _ (by decide), heldF_p, ?_⟩
        refine ⟨_, rfl, g, c.prog, gx, _, _, rfl, hg, T.prog.cl, T.prog.no _ (by decide), progF_e, _, _, rfl, .inl (SqL.of PAt.le), _, rfl, g, pa, z.p, kvs, os, rfl, PAt, W, _, _, rfl, rfl, .inl ⟨by omega, by rw [List.length_map]; omega⟩, _, _, rfl, rfl, _, rfl, ?_⟩
        rw [List.length_map]
        have ecnt : ((z.p.starts.length : Int) * (Vakepa.total z.p : Int)) = ((Vakepe.orders z.p).length : Int) := by rw [orders_count, Int.natCast_mul]
        rw [ecnt]
        by_cases big : 32 < (Vakepe.orders z.p).length
        case pos =>
          rw [decide_eq_true (show (32 : Int) < ((Vakepe.orders z.p).length : Int) by omega)]
          refine iteT ?_
          rw [decide_eq_true big, Bool.true_or, if_pos rfl] at h
          exact ⟨by show 1 ≤ sizeLine; omega, fun p hp => h _ p (Same.new hp) hp upd_same⟩
        case neg =>
          rw [decide_eq_false (show ¬ (32 : Int) < ((Vakepe.orders z.p).length : Int) by omega)]
          refine iteF ?_
          rw [decide_eq_false big, Bool.false_or] at h
          refine ⟨_, rfl, g, pa, z.p, kvs, os, rfl, PAt, W, fun Hr rr sr hrr0 hrr hrok => ?_⟩
          refine ⟨_, rfl, rr, runsOf z.p, z.p.parts.length, rfl, hrr, hrok, hp10, fun H2 me s2 hme0 hme => ?_⟩
          obtain ⟨r1, r2⟩ := reached_same rfl hrok
          refine ⟨_, rfl, _, _, rfl, .inl (SqL.of hme), _, _, rfl, rfl, _, rfl, ?_⟩
          rw [nL_len, r2]
          have s12 := sr.trans s2
          by_cases big2 : 6 < (reachedAll z.p).length
          case pos =>
            rw [decide_eq_true (show (6 : Int) < ((reachedAll z.p).length : Int) by omega)]
            refine iteT ?_
            rw [decide_eq_true big2, if_pos rfl] at h
            exact ⟨by show 1 ≤ sizeLine; omega, fun p hp => h _ p (s12.trans (Same.new hp)) (s12.free hp) upd_same⟩
          case neg =>
            rw [decide_eq_false (show ¬ (6 : Int) < ((reachedAll z.p).length : Int) by omega)]
            refine iteF ?_
            rw [decide_eq_false big2, if_neg Bool.false_ne_true] at h
            obtain ⟨x, hx⟩ := best_some z.p mn fn
            rw [hx] at h
            refine ⟨_, rfl, _, rfl, _, rfl, _, rfl, _, rfl, g, rr, me, pa, z.p, kvs, os, metOf (runsOf z.p), mn, fn, x, rfl, PAt.same s12, W, hrr.same s2, hrok, by unfold runsOf; rw [List.length_map]; omega, SqL.of hme, r1, hx, fun H3 o s3 ho0 ho => ?_⟩
            refine h H3 o (s12.trans s3) (s12.free ho0) (ho.trans ?_)
            unfold iL nL
            rw [List.map_cons, List.map_cons, List.map_map]
            rfl
/-! ### move_answer -/
def spMoveA (c : Cs) : Sp := fun vs H Q _ => ∃ (hd t : Addr) (z : Vakepe.Held) (k n : Int) (G : Hp), vs = [.ref hd, .int k, .int n] ∧ HeldAt c G H hd (some z) ∧ ansEnds c hd t G H (moveRes z k n).1 (moveRes z k n).2 Q
theorem scMoveA : FnScope ["held", "part", "pack"] ["held", "part", "pack"] (defScope s_move_answer) := ⟨rfl, rfl, rfl, by decide +kernel, rfl, by decide +kernel, by decide +kernel⟩
theorem ok_moveA (T : CsT K c) (hl : mg "len" = none) (g4 : GI mg "NO_PART" (-4)) (g6 : GI mg "BAD_PACK" (-6)) (gp : GI mg "PACKS" 4) (D : DefAt K mg "move_answer" s_move_answer) (A0 : Ok P w K mg base CX0 1 "is_one_of" ["number", "count"] spIsOne) (A1 : Ok P w K mg base CX0 1 "pack_sizes" ["program", "plan"] (spSizes K c)) :
    Ok P w K mg base CX0 2 "move_answer" ["held", "part", "pack"] (spMoveA c) := by
  refine Ok.mk' D (fun f fd F => F.ok scMoveA (fun vs H Q E h => ?_) (fun cdv A outer s0 H vs Q E hr h => ?_)) (fun _ _ _ _ _ _ us hl => match us, hl with | [_, _, _], _ => rfl)
  · obtain ⟨hd, t, z, k, n, G, rfl, _⟩ := h
    rfl
  · obtain ⟨hd, t, z, k, n, G, rfl, HA, h⟩ := h
    refine ⟨_, pss_cons (ps_if (pt_not (pt_val (cl A0 hr pass0 (pa_cons (pv 1) (pa_cons (pe_callB call_len_seq (by rfl) hl PySem.boot_len (pa_cons (pe_fld (pe_fld (pv 0) rfl) rfl) pa_nil)) pa_nil))))) (pss_one (ps_ret (pe_lst (pa_cons (gi g4) pa_nil)))) pss_nil)
      (pss_cons (ps_if (pt_not (pt_val (cl A0 hr pass0 (pa_cons (pv 2) (pa_cons (gi gp) pa_nil))))) (pss_one (ps_ret (pe_lst (pa_cons (gi g6) pa_nil)))) pss_nil)
      (pss_cons (ps_asg (pv 2) (pg_sub (pe_fld (pv 0) rfl) (pv 1) set_list))
      (pss_one (ps_ret (pe_op op_cat (pe_lst (pa_cons pe_int pa_nil)) (cl A1 hr pass0 (pa_cons (pe_fld (pv 0) rfl) (pa_cons (pe_fld (pv 0) rfl) pa_nil)))))))), ?_⟩
    have hsz : sizeLine = 16777216 := sizeLine_eq
    obtain ⟨dx, g, l0, a, kvs, os, h1, h2, h3, ⟨G0, sG0, hG0, PAt0⟩, W, h6, PO⟩ := id HA
    have PAt := (PAt0.same sG0).same h2
    obtain ⟨gx, hg⟩ := PAt.obj
    refine ⟨_, rfl, _, rfl, hd, c.held, dx, _, _, rfl, h1, T.held.cl, T.held.no _ (by decide), heldF_p, g, c.prog, gx, _, _, rfl, hg, T.prog.cl, T.prog.no _ (by decide), progF_p, _, _, rfl, .inl (SqL.of PAt.lp), k, _, rfl, _, rfl, ?_⟩
    rw [List.length_map, PAt.parts.len]
    by_cases good : 0 ≤ k ∧ k < (z.p.parts.length : Int)
    case neg =>
      rw [decide_eq_false good]
      refine iteT ?_
      rw [moveRes_k good] at h
      exact ⟨by show 1 ≤ sizeLine; omega, fun p hp => h _ G p (FrH.of (Same.new hp)) (HA.same (Same.new hp)) (fun _ _ y => .inl ⟨_, y⟩) hp upd_same⟩
    case pos =>
      rw [decide_eq_true good]
      refine iteF ?_
      obtain ⟨kn, rfl⟩ := Int.eq_ofNat_of_zero_le good.1
      have hkn : kn < z.p.parts.length := by have := good.2; omega
      refine ⟨_, rfl, n, 4, rfl, _, rfl, ?_⟩
      by_cases good2 : 0 ≤ n ∧ n < 4
      case neg =>
        rw [decide_eq_false good2]
        refine iteT ?_
        rw [moveRes_n hkn good2] at h
        exact ⟨by show 1 ≤ sizeLine; omega, fun p hp => h _ G p (FrH.of (Same.new hp)) (HA.same (Same.new hp)) (fun _ _ y => .inl ⟨_, y⟩) hp upd_same⟩
      case pos =>
        rw [decide_eq_true good2]
        refine iteF ?_
        obtain ⟨nn, rfl⟩ := Int.eq_ofNat_of_zero_le good2.1
        have hnn : nn < 4 := by have := good2.2; omega
        rw [moveRes_ok hkn hnn] at h
        have PO2 := PO.set (k := kn) hnn
        have hl0 := h2 _ _ h6
        have nhl : hd ≠ l0 := ne_of h1 hl0 (by intro y; cases y)
        refine ⟨_, rfl, _, rfl, hd, c.held, dx, _, _, rfl, h1, T.held.cl, T.held.no _ (by decide), heldF_l, _, rfl, l0, _, _, kn, rfl, rfl, hl0, ?_, ?_⟩
        · unfold ixN
          rw [nL_len, PO.len, if_pos (by omega), if_pos (by omega)]
          simp
        have enL : (nL z.l).set kn (.int (nn : Int)) = nL (z.l.set kn nn) := by
          unfold nL
          rw [List.map_set]
          rfl
        rw [enL]
        have h1' : upd H l0 (.lst (nL (z.l.set kn nn))) hd = some (.ins c.held dx (heldF (.ref g) l0)) := (upd_ne nhl).trans h1
        have s2 : Same (upd G l0 (.lst (nL (z.l.set kn nn)))) (upd H l0 (.lst (nL (z.l.set kn nn)))) := fun b u y => by
          by_cases e : b = l0
          · subst e
            rw [upd_same] at y ⊢
            exact y
          · rw [upd_ne e] at y ⊢
            exact h2 _ _ y
        have sG : Same G0 (upd G l0 (.lst (nL (z.l.set kn nn)))) := fun b u y => by
          rw [upd_ne (ne_of_none y hG0)]
          exact sG0 _ _ y
        refine ⟨by show 1 ≤ sizeLine; omega, fun q1 hq1 => ?_⟩
        have s3 := Same.new (o := .lst [.int 1]) hq1
        have s23 := s2.trans s3
        refine ⟨_, rfl, hd, c.held, dx, _, _, rfl, s3 _ _ h1', T.held.cl, T.held.no _ (by decide), heldF_p, _, rfl, hd, c.held, dx, _, _, rfl, s3 _ _ h1', T.held.cl, T.held.no _ (by decide), heldF_l, g, l0, a, z.p, kvs, os, _, rfl, PAt0.same (sG.trans s23), W, SqL.of (s23 _ _ upd_same), PO2, fun H2 q2 s4 hq2 hq3 => ?_⟩
        refine ⟨q1, q2, _, _, rfl, rfl, s4 _ _ upd_same, hq3, ?_, fun r hr => ?_⟩
        · rw [nL_len]
          have : (Vakepe.sizesOf z.p (z.l.set kn nn)).length = 4 := sizesTo_len z.p _ z.p.parts.length
          rw [this]
          show 1 + 4 ≤ sizeLine
          omega
        · have s5 := Same.new (o := .lst ([V.int 1] ++ nL (Vakepe.sizesOf z.p (z.l.set kn nn)))) hr
          have up : ∀ b u, H b = some u → b ≠ l0 → upd H2 r (.lst ([V.int 1] ++ nL (Vakepe.sizesOf z.p (z.l.set kn nn)))) b = some u := fun b u y n => s5 _ _ (s4 _ _ (s3 _ _ ((upd_ne n).trans y)))
          refine h _ (upd G l0 (.lst (nL (z.l.set kn nn)))) r (fun b u y _ hb => up b u y (fun e => by rw [e, h6] at hb; cases hb)) ⟨dx, g, l0, a, kvs, os, s5 _ _ (s4 _ _ (s3 _ _ h1')), fun b u y => s5 _ _ (s4 _ _ (s23 _ _ y)), (upd_ne nhl).trans h3, ⟨G0, sG, hG0, PAt0⟩, W, upd_same, PO2⟩ (fun b u y => ?_) ?_ ?_
          · by_cases e : b = l0
            · rw [e]
              exact .inl ⟨_, h6⟩
            · rw [upd_ne e] at y
              exact .inl ⟨_, y⟩
          · cases y : H r with
            | none => rfl
            | some u =>
              by_cases e : r = l0
              · have e2 := s4 _ _ (s3 _ _ (upd_same (H := H) (a := l0) (o := .lst (nL (z.l.set kn nn)))))
                rw [e, e2] at hr
                cases hr
              · have := s4 _ _ (s3 _ _ ((upd_ne e).trans y))
                rw [hr] at this
                cases this
          · rw [upd_same, List.map_cons, List.map_map]
            rfl
end
end Pk
end
section
set_option Elab.async false
set_option linter.all false
set_option maxRecDepth 100000
set_option maxHeartbeats 4000000
namespace Pk
open PySem PySem.Spec PyProof.Rows L2
open Vakepa (Piece Part Prog Raw RawPart)
section
variable {P : Program} {w : World} {K : PySem.W.Frag} {mg : Str → Option Value} {base : Heap} {c : Cs}
def spThereA (c : Cs) : Sp := fun vs H Q _ => ∃ (hd : Addr) (z : Vakepe.Held) (e a k : Int) (G : Hp), vs = [.ref hd, .int e, .int a, .int k] ∧ HeldAt c G H hd (some z) ∧ newEnds H (thereRes z e a k) Q
theorem scThereA : FnScope ["held", "entry", "assignment", "part", "refusal", "pack", "run", "loaded", "load"] ["held", "entry", "assignment", "part"] (defScope s_there_answer) := ⟨rfl, rfl, rfl, by decide +kernel, rfl, by decide +kernel, by decide +kernel⟩
theorem ok_thereA (T : CsT K c) (hl : mg "len" = none) (g4 : GI mg "NO_PART" (-4)) (gno : GI mg "NO_LOAD" (-1)) (D : DefAt K mg "there_answer" s_there_answer) (A0 : Ok P w K mg base CX0 2 "run_refusal" ["program", "entry", "assignment"] (spRefuse c)) (A1 : Ok P w K mg base CX0 1 "is_one_of" ["number", "count"] spIsOne)
    (A3 : Ok P w K mg base CX0 84 "run_through" ["program", "entry", "assignment"] (spThrough c)) (A4 : Ok P w K mg base CX0 1 "loads_of" ["entered", "plan"] (spLoads K)) :
    Ok P w K mg base CX0 85 "there_answer" ["held", "entry", "assignment", "part"] (spThereA c) := by
  refine Ok.mk' D (fun f fd F => (F.ok scThereA (fun vs H Q E h => ?_) (fun cdv A outer s0 H vs Q E hr h => ?_) : FnOk P w K mg base CX0 (84 + 1) f fd _ _)) (fun _ _ _ _ _ _ us hl => match us, hl with | [_, _, _, _], _ => rfl)
  · obtain ⟨hd, z, e, a, k, G, rfl, _⟩ := h
    rfl
  · obtain ⟨hd, z, e, a, k, G, rfl, HA, h⟩ := h
    have hr1 : Room 1 _ := hr.mono (by decide)
    have hr2 : Room 2 _ := hr.mono (by decide)
    refine ⟨_, pss_cons (ps_set (i := 4) scThereA.nd rfl (.inl rfl) (cl A0 hr2 pass0 (pa_cons (pe_fld (pv 0) rfl) (pa_cons (pv 1) (pa_cons (pv 2) pa_nil)))))
      (pss_cons (ps_if (pt_cmpR op_gt (pe_callB call_len_seq (by rfl) hl PySem.boot_len (pa_cons (pv 4) pa_nil)) pe_int (nomark _)) (pss_one (ps_ret (pv 4))) pss_nil)
      (pss_cons (ps_if (pt_not (pt_val (cl A1 hr1 pass0 (pa_cons (pv 3) (pa_cons (pe_callB call_len_seq (by rfl) hl PySem.boot_len (pa_cons (pe_fld (pe_fld (pv 0) rfl) rfl) pa_nil)) pa_nil))))) (pss_one (ps_ret (pe_lst (pa_cons (gi g4) pa_nil)))) pss_nil)
      (pss_cons (ps_set (i := 5) scThereA.nd rfl (.inl rfl) (pe_ix ix_list (pe_fld (pv 0) rfl) (pv 3) (fun _ _ => rfl)))
      (pss_cons (ps_set (i := 6) scThereA.nd rfl (.inl rfl) (cl A3 hr pass0 (pa_cons (pe_fld (pv 0) rfl) (pa_cons (pv 1) (pa_cons (pv 2) pa_nil)))))
      (pss_cons (ps_setLc (i := 7) (own := [("load", 8)]) (g := gName 8) (tt := tYes) rfl scThereA.nd rfl rfl (sw_true rfl rfl rfl rfl) (pi_list (cl A4 hr1 pass0 (pa_cons (pe_fld (pv 6) rfl) (pa_cons (pe_fld (pv 0) rfl) pa_nil)))) (blkOk_by (N := ["held", "entry", "assignment", "part", "refusal", "pack", "run", "loaded", "load"]) (sc := defScope s_there_answer) (by decide +kernel))
        (fun _ _ _ _ _ => pg_name (i := 8) scThereA.nd rfl (Or.inl rfl)) (fun _ _ _ _ _ => pts_nil) (fun _ _ _ _ _ => pe_ix (r := rIxT K) ix_tup (pv 8) pe_int (fun _ _ => rfl)))
      (pss_cons (ps_if (pt_cmpR op_in_seq (pv 5) (pv 7) (by rfl)) (pss_one (ps_ret (pe_lst (pa_cons pe_int (pa_cons (pe_bm PySem.F.plainAttrs_list PySem.F.slot_list_index PySem.F.type_list_index mt_index (pv 7) (pa_cons (pv 5) pa_nil)) pa_nil))))) pss_nil)
      (pss_one (ps_ret (pe_lst (pa_cons (pe_ifExp (pt_cmpR op_eq (pv 5) pe_int (nomark _)) pe_int pe_int) (pa_cons (gi gno) pa_nil))))))))))), ?_⟩
    have hsz : sizeLine = 16777216 := sizeLine_eq
    obtain ⟨dx, g, l0, pa, kvs, os, h1, h2, h3, PAt0, W, h60, PO⟩ := HA.all
    have h6 := h2 _ _ h60
    have PAt := PAt0.same h2
    obtain ⟨gx, hg⟩ := PAt.obj
    obtain ⟨ht1, ht2⟩ := total_le W
    refine ⟨_, rfl, hd, c.held, dx, _, _, rfl, h1, T.held.cl, T.held.no _ (by decide), heldF_p, _, rfl, _, rfl, g, pa, z.p, kvs, os, e, a, rfl, PAt, W, fun H1 rf S1 hrf0 hrf => ?_⟩
    refine ⟨_, rfl, _, _, rfl, .inl (SqL.of hrf), _, _, rfl, rfl, _, rfl, ?_⟩
    rw [iL_len]
    unfold refuseOf at hrf ⊢
    by_cases good : 0 ≤ e ∧ e < (z.p.starts.length : Int)
    case neg =>
      rw [if_neg good] at hrf ⊢
      refine iteT ?_
      rw [thereRes_e good] at h
      exact ⟨_, rfl, h H1 rf S1 hrf0 hrf⟩
    case pos =>
    rw [if_pos good] at hrf ⊢
    obtain ⟨i, rfl⟩ := Int.eq_ofNat_of_zero_le good.1
    have hi : i < z.p.starts.length := by have := good.2; omega
    obtain ⟨s, hs⟩ : ∃ s, z.p.starts[i]? = some s := ⟨_, List.getElem?_eq_getElem hi⟩
    by_cases good2 : 0 ≤ a ∧ a < (Vakepa.total z.p : Int)
    case neg =>
      rw [if_neg good2] at hrf ⊢
      refine iteT ?_
      rw [thereRes_a hs good2] at h
      exact ⟨_, rfl, h H1 rf S1 hrf0 hrf⟩
    case pos =>
    rw [if_pos good2] at hrf ⊢
    refine iteF ?_
    obtain ⟨n, rfl⟩ := Int.eq_ofNat_of_zero_le good2.1
    have hn : n < Vakepa.total z.p := by have := good2.2; omega
    have h1 := S1 _ _ h1
    have h6 := S1 _ _ h6
    have PAt := PAt.same S1
    have hg := S1 _ _ hg
    refine ⟨_, rfl, _, rfl, hd, c.held, dx, _, _, rfl, h1, T.held.cl, T.held.no _ (by decide), heldF_p, g, c.prog, gx, _, _, rfl, hg, T.prog.cl, T.prog.no _ (by decide), progF_p, _, _, rfl, .inl (SqL.of PAt.lp), k, _, rfl, _, rfl, ?_⟩
    rw [List.length_map, PAt.parts.len]
    by_cases good3 : 0 ≤ k ∧ k < (z.p.parts.length : Int)
    case neg =>
      rw [decide_eq_false good3]
      refine iteT ?_
      rw [thereRes_k hs hn good3] at h
      exact ⟨by show 1 ≤ sizeLine; omega, fun p hp => h _ p (S1.trans (Same.new hp)) (S1.free hp) upd_same⟩
    case pos =>
    rw [decide_eq_true good3]
    refine iteF ?_
    obtain ⟨kn, rfl⟩ := Int.eq_ofNat_of_zero_le good3.1
    have hkn : kn < z.p.parts.length := by have := good3.2; omega
    rw [thereRes_ok hs hn hkn] at h
    have hkl : kn < z.l.length := by rw [PO.len]; exact hkn
    have hpk : z.l[kn]? = some (Vakepe.packOf z.l kn) := by
      rw [packOf_at (List.getElem?_eq_getElem hkl), List.getElem?_eq_getElem hkl]
    generalize hpkd : Vakepe.packOf z.l kn = pk at h hpk
    refine ⟨_, rfl, hd, c.held, dx, _, _, rfl, h1, T.held.cl, T.held.no _ (by decide), heldF_l, _, rfl, l0, _, _, _, rfl, rfl, SqL.of h6, atI_nat (nL_at hpk), ?_⟩
    refine ⟨_, rfl, hd, c.held, dx, _, _, rfl, h1, T.held.cl, T.held.no _ (by decide), heldF_p, _, rfl, _, rfl, g, pa, z.p, kvs, os, i, s, n, rfl, PAt, W, hs, by omega, fun H2 r rx dc le cnt fin s2 hr0 hr2 hle0 hle hlt hnd => ?_⟩
    generalize hes : (Vakepa.run z.p [] s (Vakepa.valuesOf z.p n)).entered = es at h hle hlt hnd
    refine ⟨_, rfl, r, c.run, rx, _, _, rfl, hr2, T.run.cl, T.run.no _ (by decide), runF_l, _, rfl, hd, c.held, dx, _, _, rfl, s2 _ _ h1, T.held.cl, T.held.no _ (by decide), heldF_l, le, l0, es, z.l, rfl, SqL.of hle, SqL.of (s2 _ _ h6), fun x hx => by rw [PO.len]; exact hlt x hx, ?_, fun H3 ql s3 hql0 hql => ?_⟩
    · have := nodup_bound z.p.parts.length _ hnd hlt
      have := W.p10
      omega
    have s13 := S1.trans (s2.trans s3)
    have hll := loadBy_len z.l [0] es
    have hel := nodup_bound z.p.parts.length _ hnd hlt
    have hp10 := W.p10
    generalize Vakepe.loadBy z.l [0] es = ls at h hql hll
    obtain ⟨as, k1, k2⟩ := id hql
    refine ⟨ql, rfl, ⟨_, SqL.of k1⟩, fun U hU => ?_⟩
    refine lc_list (K := K) (a := ql) (xs := as.map V.ref) (fun i H4 => Same H3 H4 ∧ H4 U = some (.lst (nL ((ls.take i).map fun x => x.2))))
      ⟨Same.new hU, upd_same⟩ (fun i H4 _ z => SqL.of (z.1 _ _ k1)) ?_ ?_
    · rintro i y H4 hy ⟨s4, hU4⟩
      obtain ⟨b, hb, rfl⟩ := ref_of hy
      obtain ⟨x, hx, hT⟩ := k2.get' hb
      refine ⟨rfl, ?_⟩
      dsimp only [tYes]
      rw [if_pos rfl]
      refine ⟨_, rfl, b, _, _, _, rfl, rfl, SqT.of (s4 _ _ hT), atI_nat (j := 1) rfl, ?_⟩
      refine ⟨_, hU4, ?_, fun b o z => ?_, ?_⟩
      · rw [nL_len, List.length_map, List.length_take]
        omega
      · rw [upd_ne (ne_of_none z hU)]
        exact s4 _ _ z
      · rw [upd_same, take_snocG hx, List.map_append, List.map_cons, List.map_nil, nL_snoc]
        rfl
    rintro H4 ⟨s4, hU4⟩
    rw [List.length_map, k2.len, List.take_length] at hU4
    have s14 := s13.trans s4
    refine ⟨_, rfl, _, rfl, U, _, rfl, .inl (SqL.of hU4), rfl, nL_flat _, _, rfl, ?_⟩
    dsimp only
    rw [nL_in]
    unfold isThere loadNo at h
    cases q : (ls.map fun x => x.2).contains pk with
    | true =>
      refine iteT ?_
      obtain ⟨j, hj, hj1⟩ := firstN (List.contains_iff_mem.mp q)
      obtain ⟨i1, i2⟩ := loadNo_in hj hj1
      rw [i1, i2, Bool.or_true, if_pos rfl] at h
      refine ⟨_, rfl, .inl ⟨rfl, _, SqL.of hU4⟩, _, rfl, U, _, _, j, _, rfl, rfl, SqL.of hU4, rfl, nL_flat _, nL_at hj, by rw [eqV_nat]; exact decide_eq_true rfl, fun m x hm hx => ?_, ?_⟩
      · obtain ⟨y, hy, rfl⟩ := nL_of hx
        rw [eqV_nat]
        exact decide_eq_false (hj1 m y hm hy)
      · exact ⟨by show 2 ≤ sizeLine; omega, fun p hp => h _ p (s14.trans (Same.new hp)) (s14.free hp) upd_same⟩
    | false =>
      refine iteF ?_
      obtain ⟨i1, i2⟩ := loadNo_out q
      rw [i1, i2, Bool.or_false] at h
      refine ⟨_, rfl, rfl, _, rfl, ?_⟩
      by_cases h0 : pk = 0
      · subst h0
        rw [decide_eq_true rfl, if_pos rfl] at h
        refine ited (fun _ => ?_) (fun z => absurd rfl z)
        exact ⟨by show 2 ≤ sizeLine; omega, fun p hp => h _ p (s14.trans (Same.new hp)) (s14.free hp) upd_same⟩
      · rw [decide_eq_false h0, if_neg Bool.false_ne_true] at h
        refine ited (fun z => absurd (by have := V.int.inj z; omega) h0) (fun _ => ?_)
        exact ⟨by show 2 ≤ sizeLine; omega, fun p hp => h _ p (s14.trans (Same.new hp)) (s14.free hp) upd_same⟩
end
end Pk
end
section
set_option Elab.async false
set_option linter.all false
set_option maxRecDepth 100000
set_option maxHeartbeats 4000000
namespace Pk
open PySem PySem.Spec PyProof.Rows L2
section
variable {K : PySem.W.Frag} {h : Heap} {mg : Str → Option Value} {C f : Addr} {x m qual : Str} {st : Stmt}
theorem atK (X : K.In h) (T : PySem.W.Frag → Prop) (t : T K) : T K := t
theorem def_mk {oc : Value} {od an : Option Addr} {osl : Array (Option Value)} {kV doc pm cdv ct : Value} (X : K.In h) (G : h.Ns mainGlobals mg) (a : PySem.W.nsIn K mainGlobals x = some (some (.ref f)))
    (l : K.lookup f = some ⟨oc, od, .func (PySem.W.fnOf x x (defArgs st) (defBody st) (defScope st) .none kV doc pm an cdv ct), osl⟩) (c : PySem.W.codeIn K cdv x = true) (k : PySem.W.keepIn K (.ref f) = true) : DefAt K mg x st :=
  ⟨f, _, fun_mk l c k, PySem.W.mg_of X G a⟩
theorem meth_mk {oc : Value} {od an : Option Addr} {osl : Array (Option Value)} {kV doc pm cdv ct : Value} (a : PySem.W.findIn K (.ref C) m = some (some (.ref f)))
    (l : K.lookup f = some ⟨oc, od, .func (PySem.W.fnOf m qual (defArgs st) (defBody st) (defScope st) .none kV doc pm an cdv ct), osl⟩) (i : PySem.W.isFn K (.ref f) = true) (c : PySem.W.codeIn K cdv qual = true) (k : PySem.W.keepIn K (.ref f) = true) : MethAt K C m qual st :=
  ⟨f, _, fun_mk l c k, a, i, k⟩
theorem cls_mk (pg : PySem.W.plainGet K C Str.empty = true) (hd : PySem.W.hasDictIn K C = true) (po : PySem.W.plainOver K C = true) (sa : PySem.W.findIn K (.ref C) "__setattr__" = some (some (.builtin "object.__setattr__"))) : Cls K C := ⟨pg, hd, po, sa⟩
theorem init_mk {oc : Value} {od an : Option Addr} {osl : Array (Option Value)} {kV doc pm cdv ct : Value} (X : K.In h) (G : h.Ns mainGlobals mg) (n : PySem.W.nsIn K mainGlobals x = some (some (.ref C))) (a : PySem.W.findIn K (.ref C) "__init__" = some (some (.ref f)))
    (l : K.lookup f = some ⟨oc, od, .func (PySem.W.fnOf "__init__" qual (defArgs st) (defBody st) (defScope st) .none kV doc pm an cdv ct), osl⟩) (i : PySem.W.isFn K (.ref f) = true) (c : PySem.W.codeIn K cdv qual = true) (k : PySem.W.keepIn K (.ref f) = true)
    (mk : PySem.W.makesIn K C = true) (kc : PySem.W.keepIn K (.ref C) = true) (cl : Cls K C) : InitAt K mg C x qual st :=
  ⟨⟨f, _, fun_mk l c k, mk, a, i, kc⟩, PySem.W.mg_of X G n, cl⟩
theorem gi_mk {i : Int} {t : Tok} (X : K.In h) (G : h.Ns mainGlobals mg) (a : PySem.W.nsIn K mainGlobals x = some (some (.int i t))) : GI mg x i := ⟨t, PySem.W.mg_of X G a⟩
theorem gs_mk {z : Str} {t : Tok} (X : K.In h) (G : h.Ns mainGlobals mg) (a : PySem.W.nsIn K mainGlobals x = some (some (.str z t))) : GS mg x z := ⟨t, PySem.W.mg_of X G a⟩
theorem gt_mk {dd : Option Addr} {its : Array Value} {n : Nat} {sl : Array (Option Value)} {a : Addr} {xs : List V} (l : K.lookup a = some ⟨.type "tuple", dd, .seq its n, sl⟩) (hs : its.size ≤ sizeLine) (v : Vals xs its.toList) : ∀ H, SqT K H a xs :=
  fun H => .inr ⟨_, its, n, l, rfl, rfl, hs, v⟩
end
end Pk
end
section
set_option Elab.async false
set_option linter.all false
set_option maxRecDepth 100000
set_option maxHeartbeats 4000000
namespace Pk
open PySem PySem.Spec PyProof.Rows L2
/-! ### all defs, inits, methods of the text, where they stand -/
structure TxtD (K : PySem.W.Frag) (mg : Str → Option Value) (c : Cs) : Prop where
  d_pack_sizes : DefAt K mg "pack_sizes" s_pack_sizes
  d_loads_of : DefAt K mg "loads_of" s_loads_of
  d_run_cost : DefAt K mg "run_cost" s_run_cost
  d_all_costs : DefAt K mg "all_costs" s_all_costs
  d_plans_for : DefAt K mg "plans_for" s_plans_for
  d_best_plan : DefAt K mg "best_plan" s_best_plan
  d_assignment_count : DefAt K mg "assignment_count" s_assignment_count
  d_words_chosen : DefAt K mg "words_chosen" s_words_chosen
  d_made_name : DefAt K mg "made_name" s_made_name
  d_tokens_of : DefAt K mg "tokens_of" s_tokens_of
  d_token_start : DefAt K mg "token_start" s_token_start
  d_remark_end : DefAt K mg "remark_end" s_remark_end
  d_token_at : DefAt K mg "token_at" s_token_at
  d_number_at : DefAt K mg "number_at" s_number_at
  d_name_at : DefAt K mg "name_at" s_name_at
  d_is_digit : DefAt K mg "is_digit" s_is_digit
  d_is_letter : DefAt K mg "is_letter" s_is_letter
  d_read_program : DefAt K mg "read_program" s_read_program
  d_run_through : DefAt K mg "run_through" s_run_through
  d_all_entered : DefAt K mg "all_entered" s_all_entered
  d_reached_parts : DefAt K mg "reached_parts" s_reached_parts
  d_leads_to : DefAt K mg "leads_to" s_leads_to
  d_parts_in_each : DefAt K mg "parts_in_each" s_parts_in_each
  d_answers : DefAt K mg "answers" s_answers
  d_call_end : DefAt K mg "call_end" s_call_end
  d_answer_of : DefAt K mg "answer_of" s_answer_of
  d_is_one_of : DefAt K mg "is_one_of" s_is_one_of
  d_is_cost : DefAt K mg "is_cost" s_is_cost
  d_load_answer : DefAt K mg "load_answer" s_load_answer
  d_packs_answer : DefAt K mg "packs_answer" s_packs_answer
  d_cost_answer : DefAt K mg "cost_answer" s_cost_answer
  d_run_refusal : DefAt K mg "run_refusal" s_run_refusal
  d_run_answer : DefAt K mg "run_answer" s_run_answer
  d_before_answer : DefAt K mg "before_answer" s_before_answer
  d_best_answer : DefAt K mg "best_answer" s_best_answer
  d_move_answer : DefAt K mg "move_answer" s_move_answer
  d_there_answer : DefAt K mg "there_answer" s_there_answer
  i_Say : InitAt K mg c.say "Say" "Say.__init__" s_Say_init
  i_Call : InitAt K mg c.call "Call" "Call.__init__" s_Call_init
  i_Make : InitAt K mg c.make "Make" "Make.__init__" s_Make_init
  i_When : InitAt K mg c.when_ "When" "When.__init__" s_When_init
  i_Part : InitAt K mg c.part "Part" "Part.__init__" s_Part_init
  i_Program : InitAt K mg c.prog "Program" "Program.__init__" s_Program_init
  i_Token : InitAt K mg c.tok "Token" "Token.__init__" s_Token_init
  i_Reader : InitAt K mg c.reader "Reader" "Reader.__init__" s_Reader_init
  i_Run : InitAt K mg c.run "Run" "Run.__init__" s_Run_init
  i_Held : InitAt K mg c.held "Held" "Held.__init__" s_Held_init
  m_Reader_kind_ahead : MethAt K c.reader "kind_ahead" "Reader.kind_ahead" s_Reader_kind_ahead
  m_Reader_take : MethAt K c.reader "take" "Reader.take" s_Reader_take
  m_Reader_skip : MethAt K c.reader "skip" "Reader.skip" s_Reader_skip
  m_Reader_take_within : MethAt K c.reader "take_within" "Reader.take_within" s_Reader_take_within
  m_Reader_take_size : MethAt K c.reader "take_size" "Reader.take_size" s_Reader_take_size
  m_Reader_read_settings : MethAt K c.reader "read_settings" "Reader.read_settings" s_Reader_read_settings
  m_Reader_read_words : MethAt K c.reader "read_words" "Reader.read_words" s_Reader_read_words
  m_Reader_read_parts : MethAt K c.reader "read_parts" "Reader.read_parts" s_Reader_read_parts
  m_Reader_read_part : MethAt K c.reader "read_part" "Reader.read_part" s_Reader_read_part
  m_Reader_read_body : MethAt K c.reader "read_body" "Reader.read_body" s_Reader_read_body
  m_Reader_read_statement : MethAt K c.reader "read_statement" "Reader.read_statement" s_Reader_read_statement
  m_Reader_read_call : MethAt K c.reader "read_call" "Reader.read_call" s_Reader_read_call
  m_Reader_read_make : MethAt K c.reader "read_make" "Reader.read_make" s_Reader_read_make
  m_Reader_read_when : MethAt K c.reader "read_when" "Reader.read_when" s_Reader_read_when
  m_Reader_take_known : MethAt K c.reader "take_known" "Reader.take_known" s_Reader_take_known
  m_Reader_read_entries : MethAt K c.reader "read_entries" "Reader.read_entries" s_Reader_read_entries
  m_Reader_check_calls : MethAt K c.reader "check_calls" "Reader.check_calls" s_Reader_check_calls
  m_Run_enter : MethAt K c.run "enter" "Run.enter" s_Run_enter
  m_Run_do_all : MethAt K c.run "do_all" "Run.do_all" s_Run_do_all
  m_Run_do_one : MethAt K c.run "do_one" "Run.do_one" s_Run_do_one
/-- the constants, the names that are no globals, the classes -/
structure TxtG (P : Program) (w : World) (K : PySem.W.Frag) (mg : Str → Option Value) (c : Cs) (fF ab aw ds an ar : Addr) : Prop where
  rd : RdT K mg c fF
  rt : RunT K mg c
  ap : Apart c c.tok
  nolen : mg "len" = none
  norange : mg "range" = none
  noenum : mg "enumerate" = none
  nomax : mg "max" = none
  nosum : mg "sum" = none
  nolist : mg "list" = none
  nosort : mg "sorted" = none
  nomin : mg "min" = none
  le : GI mg "LINE_END" 10
  re : GI mg "REMARK" 35
  gb : mg "BLANKS" = some (.ref ab)
  tb : ∀ H, SqT K H ab [.int 32, .int 9, .int 10]
  md : GI mg "MOST_DIGITS" 10
  ze : GI mg "ZERO" 48
  nt : GI mg "NO_TOKEN" 2
  gn : GI mg "GREATEST_NUMBER" 1000000000
  ln : GI mg "LONGEST_NAME" 16
  gl : GS mg "GLYPHS" glyphs
  wo : mg "WORDS" = some (.ref aw)
  wt : ∀ H, SqT K H aw resV
  gS : mg "SIGNS" = some (.ref ds)
  dS : KDI P w K ds signKV
  len1 : GI mg "LENGTH" 1
  lt : GI mg "LONGEST_TEXT" 4096
  pk : GI mg "PACKS" 4
  ne : GI mg "NO_ENTRY" (-2)
  na : GI mg "NO_ASSIGNMENT" (-3)
  bc : GI mg "BAD_COST" (-5)
  bp : GI mg "BAD_PACK" (-6)
  gc : GI mg "GREATEST_COST" 1000
  np : GI mg "NO_PART" (-4)
  tm : GI mg "TOO_MUCH" (-7)
  mru : GI mg "MOST_RUNS" 32
  mre : GI mg "MOST_REACHED" 6
  nlo : GI mg "NO_LOAD" (-1)
  unr : GI mg "UNREACHED_PACK" 3
  nprog : GI mg "NO_PROGRAM" (-1)
  c0 : GI mg "LOAD" 0
  c1 : GI mg "PACKS_CALL" 1
  c2 : GI mg "COST" 2
  c3 : GI mg "RUN" 3
  c4 : GI mg "BEFORE" 4
  c5 : GI mg "BEST" 5
  c6 : GI mg "MOVE" 6
  nu : mg "NUMBERS_TOLD" = some (.ref an)
  tn : ∀ H, SqT K H an (nL numbersTold)
  ro : mg "ROWS_TOLD" = some (.ref ar)
  tr : ∀ H, SqT K H ar (nL rowsTold)
/-- what is kept of all these -/
structure OkAll (P : Program) (w : World) (K : PySem.W.Frag) (mg : Str → Option Value) (base : Heap) (c : Cs) : Prop where
  read : Ok P w K mg base (L2.CX P w) 18 "read_program" ["text"] (spRead K c)
  count : Ok P w K mg base CX0 1 "assignment_count" ["program"] (spCount c)
  through : Ok P w K mg base CX0 84 "run_through" ["program", "entry", "assignment"] (spThrough c)
  sizes : Ok P w K mg base CX0 1 "pack_sizes" ["program", "plan"] (spSizes K c)
  loads : Ok P w K mg base CX0 1 "loads_of" ["entered", "plan"] (spLoads K)
  cost : Ok P w K mg base CX0 1 "run_cost" ["sizes", "loads", "more"] (spCost K)
  heldI : OkI P w K mg base CX0 1 c.held "Held" ["self"] (spHeldI c)
  end_ : Ok P w K mg base CX0 1 "call_end" ["calls", "at"] (spEnd K)
  loadA : Ok P w K mg base CX0 19 "load_answer" ["held", "text"] (spLoadA K c)
  packsA : Ok P w K mg base CX0 2 "packs_answer" ["held", "plan"] (spPacksA c)
  costA : Ok P w K mg base CX0 86 "cost_answer" ["held", "more"] (spCostA c)
  runA : Ok P w K mg base CX0 85 "run_answer" ["held", "entry", "assignment"] (spRunA c)
  beforeA : Ok P w K mg base CX0 86 "before_answer" ["held", "part"] (spBeforeA c)
  bestA : Ok P w K mg base CX0 86 "best_answer" ["held", "more", "first"] (spBestA c)
  moveA : Ok P w K mg base CX0 2 "move_answer" ["held", "part", "pack"] (spMoveA c)
  thereA : Ok P w K mg base CX0 85 "there_answer" ["held", "entry", "assignment", "part"] (spThereA c)
theorem ok_every {P : Program} {w : World} {K : PySem.W.Frag} {mg : Str → Option Value} {base : Heap} {c : Cs} {fF ab aw ds an ar : Addr} (D : TxtD K mg c) (G : TxtG P w K mg c fF ab aw ds an ar) : OkAll P w K mg base c := by
  have T := G.rd
  have C := T.cs
  -- tokens
  have t1 := ok_dig (P := P) (w := w) (base := base) D.d_is_digit
  have t2 := ok_let (P := P) (w := w) (base := base) D.d_is_letter
  have t3 := ok_rem (P := P) (w := w) (base := base) D.d_remark_end G.nolen G.le
  have t4 := ok_tokI (P := P) (w := w) (base := base) C.tok D.i_Token
  have t5 := ok_start (P := P) (w := w) (base := base) D.d_token_start G.nolen G.re G.gb G.tb t3
  have t6 := ok_num (P := P) (w := w) (base := base) ⟨T.ft, C.tok, G.nolen, G.md, G.ze, G.nt, G.gn⟩ D.d_number_at t1 t4
  have t7 := ok_name (P := P) (w := w) (base := base) ⟨T.ft, C.tok, G.nolen, G.ln, G.ze, G.nt, G.gl, G.wo, G.wt⟩ D.d_name_at t1 t2 t4
  have t8 := ok_tok (P := P) (w := w) (base := base) ⟨T.ft, G.nt, G.gS, G.dS⟩ D.d_token_at t1 t2 t4 t6 t7
  have t9 := ok_toks (P := P) (w := w) (base := base) C.tok G.nolen D.d_tokens_of t5 t4 t8
  -- programs
  have i1 := ok_sayI (P := P) (w := w) (base := base) C.say D.i_Say
  have i2 := ok_callI (P := P) (w := w) (base := base) C.call D.i_Call
  have i3 := ok_makeI (P := P) (w := w) (base := base) C.make D.i_Make
  have i4 := ok_partI (P := P) (w := w) (base := base) C.part D.i_Part
  have i5 := ok_whenI (P := P) (w := w) (base := base) C.when_ D.i_When
  have i6 := ok_progI (P := P) (w := w) (base := base) C.prog D.i_Program
  have p1 := ok_count (P := P) (w := w) (base := base) C G.nolen D.d_assignment_count
  have p2 := ok_words (P := P) (w := w) (base := base) C G.nolen D.d_words_chosen
  have p3 := ok_made (P := P) (w := w) (K := K) (base := base) D.d_made_name
  -- runs
  have r1 := all_runs (P := P) (w := w) (base := base) G.rt D.m_Run_enter D.m_Run_do_all D.m_Run_do_one p3 9 (Nat.le_refl _)
  have r2 := ok_runI (P := P) (w := w) (base := base) G.rt D.i_Run p2
  have r3 := ok_through (P := P) (w := w) (base := base) G.rt D.d_run_through r2 r1
  -- reader
  have a0 := ok_kind (P := P) (w := w) (base := base) T D.m_Reader_kind_ahead
  have a1 := ok_take (P := P) (w := w) (base := base) T D.m_Reader_take
  have a2 := ok_skip (P := P) (w := w) (base := base) T D.m_Reader_skip a0
  have a3 := ok_within (P := P) (w := w) (base := base) T D.m_Reader_take_within a1
  have a4 := ok_size (P := P) (w := w) (base := base) T D.m_Reader_take_size a1
  have a5 := ok_known (P := P) (w := w) (base := base) T D.m_Reader_take_known a1
  have b1 := ok_wordsR (P := P) (w := w) (base := base) T D.m_Reader_read_words a1 a3 a2
  have b2 := ok_makeR (P := P) (w := w) (base := base) T D.m_Reader_read_make a1 a3 a2 i3
  have b3 := ok_callR (P := P) (w := w) (base := base) T D.m_Reader_read_call a1 i2
  have b4 := all_bodies (P := P) (w := w) (base := base) T D.m_Reader_read_body D.m_Reader_read_statement D.m_Reader_read_when a0 a1 a2 a5 b2 b3 a4 i1 i5 3 (Nat.le_refl _)
  have b5 := ok_sets (P := P) (w := w) (base := base) T D.m_Reader_read_settings a0 a1 a3 b1
  have b6 := ok_part (P := P) (w := w) (base := base) T D.m_Reader_read_part a1 a3 a4 b4 i4
  have b7 := ok_parts (P := P) (w := w) (base := base) T D.m_Reader_read_parts a0 b6
  have b8 := ok_ents (P := P) (w := w) (base := base) T D.m_Reader_read_entries a1 a3 a2
  have b9 := ok_check (P := P) (w := w) (base := base) T D.m_Reader_check_calls
  have c1 := ok_readI (P := P) (w := w) (base := base) C D.i_Reader i6
  have c2 := ok_read (P := P) (w := w) (base := base) T G.ap G.len1 G.lt D.d_read_program t9 c1 b5 b7 b8 a1 b9
  -- loads
  have l1 := ok_sizes (P := P) (w := w) (base := base) C G.noenum G.pk D.d_pack_sizes
  have l2 := ok_loads (P := P) (w := w) (K := K) (base := base) D.d_loads_of
  have l3 := ok_cost (P := P) (w := w) (K := K) (base := base) D.d_run_cost
  have l4 := ok_allCosts (P := P) (w := w) (base := base) C D.d_all_costs l1 l2 l3
  have r4 := ok_allEnt (P := P) (w := w) (base := base) C G.nolen G.norange D.d_all_entered p1 r3
  have r5 := ok_reached (P := P) (w := w) (K := K) (base := base) D.d_reached_parts
  have r6 := ok_leads (P := P) (w := w) (K := K) (base := base) D.d_leads_to
  have r7 := ok_each (P := P) (w := w) (K := K) (base := base) G.nolen G.nosort D.d_parts_in_each
  have l5 := ok_plansFor (P := P) (w := w) (K := K) (base := base) G.norange G.unr D.d_plans_for
  have l6 := ok_best (P := P) (w := w) (base := base) C G.nolen G.nosum G.nomin D.d_best_plan l1 l4 l5
  -- packs
  have q1 := ok_isOne (P := P) (w := w) (K := K) (base := base) D.d_is_one_of
  have q2 := ok_isCost (P := P) (w := w) (K := K) (base := base) G.gc D.d_is_cost
  have q3 := ok_refuse (P := P) (w := w) (base := base) C G.nolen G.ne G.na D.d_run_refusal q1 p1
  exact ⟨c2, p1, r3, l1, l2, l3, ok_heldI C D.i_Held, ok_end G.norange G.nu G.tn G.ro G.tr D.d_call_end, ok_loadA T D.d_load_answer c2 p1, ok_packsA C G.nolen G.nolist G.pk G.bp D.d_packs_answer q1 l1,
    ok_costA C G.nolen G.nomax G.nosum G.bc D.d_cost_answer q2 r4 l1 p1 l4, ok_runA C G.nolen D.d_run_answer q3 l1 r3 l2 l3, ok_beforeA C G.nolen G.np D.d_before_answer q1 r4 r6 r7,
    ok_bestA C G.nolen G.bc G.tm G.mru G.mre D.d_best_answer q2 r4 p1 r5 l6, ok_moveA C G.nolen G.np G.bp G.pk D.d_move_answer q1 l1, ok_thereA C G.nolen G.np G.nlo D.d_there_answer q3 q1 r3 l2⟩
/-- the whole, from the facts of the text -/
theorem fin_mk {P : Program} {w : World} {K : PySem.W.Frag} {mg : Str → Option Value} {fa : Addr} {c : Cs} {fF ab aw ds an ar : Addr} {k : Nat} (hk : 1 ≤ k) (hmg : mg "answers" = some (.ref fa)) (D : TxtD K mg c) (G : TxtG P w K mg c fF ab aw ds an ar)
    (A : ∀ base : Heap, Ok P w K mg base CX0 k "answer_of" ["held", "call"] (spAnsOf c)) :
    ∃ fd : FuncData, (∀ (s : Shared) (us : List Value), us.length = (["calls"] : List Str).length → BindsTo s fd ⟨us, []⟩ ((["calls"] : List Str).zip us)) ∧ ∀ base : Heap, K.In base → base.Ns mainGlobals mg → FnOk P w K mg base CX0 ((k + 1) + 1) fa fd ["calls"] (spAns K) := by
  obtain ⟨f, fd, F, g⟩ := D.d_answers.ex
  have e : f = fa := Value.ref.inj (Option.some.inj (g.symm.trans hmg))
  subst e
  refine ⟨fd, fun s us hu => ?_, fun base _ _ => ?_⟩
  · obtain ⟨oc, od, kV, doc, pm, an, cdv, ct, osl, rfl, _⟩ := F.ex
    exact match us, hu with | [_], _ => .of_eq rfl
  · have O := ok_every (base := base) D G
    exact fn_ans hk G.rd.cs G.nolen F O.heldI O.end_ (A base)
theorem no_nil {K : PySem.W.Frag} {C : Addr} : ∀ n ∈ ([] : List Str), NoAttr K C n := fun _ h => absurd h List.not_mem_nil
theorem no_cons {K : PySem.W.Frag} {C : Addr} {n : Str} {ns : List Str} (h : PySem.W.findIn K (.ref C) n = some none) (t : ∀ m ∈ ns, NoAttr K C m) : ∀ m ∈ n :: ns, NoAttr K C m := fun m hm => by
  rcases List.mem_cons.mp hm with z | z
  · rw [z]
    exact h
  · exact t m z
theorem kit_mk {K : PySem.W.Frag} {C D : Addr} (h2 : PySem.W.isClsIn K D = true) (h3 : PySem.W.typeIn K (.ref D) = some (.type "type")) (h4 : PySem.W.subIn K (.ref C) (.ref D) = some (decide (C = D))) : PySem.W.kitOne K (.ref C) (.ref D) = some (decide (C = D)) := by
  unfold PySem.W.kitOne
  by_cases e : C = D
  · subst e
    rw [if_pos (beq_self_eq_true _), decide_eq_true rfl]
  · rw [if_neg (by intro z; exact e (Value.ref.inj (beq_iff_eq.mp z)))]
    show (if ((PySem.W.clsIn K D).isSome && PySem.W.typeIn K (.ref D) == some (.type "type")) = true then PySem.W.subIn K (.ref C) (.ref D) else none) = _
    have h2' : (PySem.W.clsIn K D).isSome = true := h2
    rw [h2', h3, h4]
    rfl
theorem isi_mk {K : PySem.W.Frag} {c : Cs} {C : Addr} (cl : Cls K C) (ha : PySem.W.findIn K (.ref C) "__class__" = some (some (.builtin "object.__class__"))) (hn : PySem.W.specialIn K (.builtin "object.__class__") "__get__" = some (some (.builtin "getset_descriptor.__get__"))) (ht : PySem.W.takesIn K (.builtin "object.__class__") = some true)
    (hm : PySem.W.mroIn K C (.type "object") = some true) (a2 : PySem.W.isClsIn K c.call = true) (a3 : PySem.W.typeIn K (.ref c.call) = some (.type "type")) (a4 : PySem.W.subIn K (.ref C) (.ref c.call) = some (decide (C = c.call)))
    (b2 : PySem.W.isClsIn K c.make = true) (b3 : PySem.W.typeIn K (.ref c.make) = some (.type "type")) (b4 : PySem.W.subIn K (.ref C) (.ref c.make) = some (decide (C = c.make)))
    (d2 : PySem.W.isClsIn K c.when_ = true) (d3 : PySem.W.typeIn K (.ref c.when_) = some (.type "type")) (d4 : PySem.W.subIn K (.ref C) (.ref c.when_) = some (decide (C = c.when_))) : IsiC K c C :=
  ⟨cl, ha, hn, ht, hm, kit_mk a2 a3 a4, kit_mk b2 b3 b4, kit_mk d2 d3 d4⟩
theorem exm_self {K : PySem.W.Frag} {S : Addr} (h1 : PySem.W.subIn K (.ref S) (.type "BaseException") = some true) (h2 : PySem.W.isClsIn K S = true) (h3 : PySem.W.typeIn K (.ref S) = some (.type "type")) (h4 : PySem.W.subIn K (.ref S) (.ref S) = some true) :
    PySem.W.exmOne K (.ref S) (.ref S) = some true := by
  have e1 : (PySem.W.subIn K (.ref S) (.type "BaseException") == some true) = true := by rw [h1] <;> rfl
  have e2 : ((PySem.W.clsIn K S).isSome && PySem.W.typeIn K (.ref S) == some (.type "type")) = true := by
    have h2' : (PySem.W.clsIn K S).isSome = true := h2
    rw [h2', h3] <;> rfl
  show (if (PySem.W.subIn K (.ref S) (.type "BaseException") == some true) = true then (if ((PySem.W.clsIn K S).isSome && PySem.W.typeIn K (.ref S) == some (.type "type")) = true then PySem.W.subIn K (.ref S) (.ref S) else none) else none) = some true
  rw [if_pos e1, if_pos e2]
  exact h4
/-- a written dict with whole numbers for keys -/
theorem kdi_mk {P : Program} {w : World} {K : PySem.W.Frag} {d : Addr} {es : Array DictEntry} {n : Nat} {kvs : List (Key × V)} (l : K.lookup d = some ⟨.type "dict", none, .dict es n, #[]⟩) (low : (d == sysModules) = false) {vs : List (Key × Value)} (kv : KV kvs vs)
    (ko : KeysOf (mixKind P w) es) (pr : Pairs (mixKind P w) es.toList vs) (nd : (vs.map (·.1)).Nodup) : KDI P w K d kvs := ⟨fun h X => ⟨vs, kv, _, es, n, X _ _ l, ⟨rfl, rfl, rfl⟩, rfl, ko, pr, nd⟩, low⟩
end Pk
end
section
set_option Elab.async false
set_option linter.all false
set_option maxRecDepth 100000
set_option maxHeartbeats 4000000
namespace Pk
open PySem PySem.Spec PyProof.Rows L2
open Vakepa (Piece Part Prog Raw RawPart)
/-! ### answer_of -/
theorem Form.len {L : List Int} {cc : List (List Int)} (F : Form L cc) : 2 ≤ L.length := by
  cases F <;> simp
/-- the call's number -/
def Form.no {L : List Int} {cc : List (List Int)} (F : Form L cc) : Int := L.headD 0
/-- told as a new list beside what was there -/
theorem newEnds.ans {c : Cs} {hd t : Addr} {G H : Hp} {o : Vakepe.Obj} {r : List Int} {Q : VK} (h : ansEnds c hd t G H o r Q) (HA : HeldAt c G H hd o) : newEnds H r Q := fun H' q s h0 h1 =>
  h H' G q (FrH.of s) (HA.same s) (fun _ _ z => .inl ⟨_, z⟩) h0 h1
theorem ansEnds.grow {c : Cs} {hd t : Addr} {G H H2 : Hp} {o : Vakepe.Obj} {r : List Int} {Q : VK} (h : ansEnds c hd t G H o r Q) (s : Same H H2) {t2 : Addr} (ht : H t2 = none) : ansEnds c hd t2 G H2 o r Q := fun H' G' q fr ha hn h0 h1 =>
  h H' G' q (fun b u z n => fr b u (s b u z) n) ha (fun b u z => by
    rcases hn b u z with y | y | y
    · exact .inl y
    · exact .inr (.inl (s.free y))
    · exact .inr (.inl (by rw [y]; exact ht))) (s.free h0) h1
theorem newEnds.grow {H H2 : Hp} {r : List Int} {Q : VK} (h : newEnds H r Q) (s : Same H H2) : newEnds H2 r Q := fun H' q s2 h0 h1 => h H' q (s.trans s2) (s.free h0) h1
section
variable {P : Program} {w : World} {K : PySem.W.Frag} {mg : Str → Option Value} {base : Heap} {c : Cs}
theorem scAnsOf : FnScope ["held", "call", "number"] ["held", "call"] (defScope s_answer_of) := ⟨rfl, rfl, rfl, by decide +kernel, rfl, by decide +kernel, by decide +kernel⟩
theorem ok_ansOf {fF ab aw ds an ar : Addr} (D : TxtD K mg c) (T : CsT K c) (g : TxtG P w K mg c fF ab aw ds an ar) (O : OkAll P w K mg base c) :
    Ok P w K mg base CX0 87 "answer_of" ["held", "call"] (spAnsOf c) := by
  have g0 := g.c0
  have g1 := g.c1
  have g2 := g.c2
  have g3 := g.c3
  have g4 := g.c4
  have g5 := g.c5
  have g6 := g.c6
  have gn := g.nprog
  refine Ok.mk' D.d_answer_of (fun f fd F => (F.ok scAnsOf (fun vs H Q E h => ?_) (fun cdv A outer s0 H vs Q E hr h => ?_) : FnOk P w K mg base CX0 (86 + 1) f fd _ _)) (fun _ _ _ _ _ _ us hl => match us, hl with | [_, _], _ => rfl)
  · obtain ⟨hd, t, o, L, cc, tt, G, rfl, _⟩ := h
    rfl
  · obtain ⟨hd, t, o, L, cc, tt, G, rfl, HA, ht, hc, hok, h⟩ := h
    refine ⟨_, pss_cons (ps_set (i := 2) scAnsOf.nd rfl (.inl rfl) (pe_ix ix_list (pv 1) pe_int (fun _ _ => rfl)))
      (pss_cons (ps_if (pt_cmpR op_eq (pv 2) (gi g0) (nomark _)) (pss_one (ps_ret (cl O.loadA (hr.mono (by decide)) pass0 (pa_cons (pv 0) (pa_cons (pe_slice sl_list (pv 1) (po_some pe_int) po_none) pa_nil))))) pss_nil)
      (pss_cons (ps_if (pt_cmp (pc_isN (pe_fld (pv 0) rfl)) (by rfl)) (pss_one (ps_ret (pe_lst (pa_cons (gi gn) pa_nil)))) pss_nil)
      (pss_cons (ps_if (pt_cmpR op_eq (pv 2) (gi g1) (nomark _)) (pss_one (ps_ret (cl O.packsA (hr.mono (by decide)) pass0 (pa_cons (pv 0) (pa_cons (pe_slice sl_list (pv 1) (po_some pe_int) po_none) pa_nil))))) pss_nil)
      (pss_cons (ps_if (pt_cmpR op_eq (pv 2) (gi g2) (nomark _)) (pss_one (ps_ret (cl O.costA hr pass0 (pa_cons (pv 0) (pa_cons (pe_ix ix_list (pv 1) pe_int (fun _ _ => rfl)) pa_nil))))) pss_nil)
      (pss_cons (ps_if (pt_cmpR op_eq (pv 2) (gi g3) (nomark _)) (pss_one (ps_ret (cl O.runA (hr.mono (by decide)) pass0 (pa_cons (pv 0) (pa_cons (pe_ix ix_list (pv 1) pe_int (fun _ _ => rfl)) (pa_cons (pe_ix ix_list (pv 1) pe_int (fun _ _ => rfl)) pa_nil)))))) pss_nil)
      (pss_cons (ps_if (pt_cmpR op_eq (pv 2) (gi g4) (nomark _)) (pss_one (ps_ret (cl O.beforeA hr pass0 (pa_cons (pv 0) (pa_cons (pe_ix ix_list (pv 1) pe_int (fun _ _ => rfl)) pa_nil))))) pss_nil)
      (pss_cons (ps_if (pt_cmpR op_eq (pv 2) (gi g5) (nomark _)) (pss_one (ps_ret (cl O.bestA hr pass0 (pa_cons (pv 0) (pa_cons (pe_ix ix_list (pv 1) pe_int (fun _ _ => rfl)) (pa_cons (pe_ix ix_list (pv 1) pe_int (fun _ _ => rfl)) pa_nil)))))) pss_nil)
      (pss_cons (ps_if (pt_cmpR op_eq (pv 2) (gi g6) (nomark _)) (pss_one (ps_ret (cl O.moveA (hr.mono (by decide)) pass0 (pa_cons (pv 0) (pa_cons (pe_ix ix_list (pv 1) pe_int (fun _ _ => rfl)) (pa_cons (pe_ix ix_list (pv 1) pe_int (fun _ _ => rfl)) pa_nil)))))) pss_nil)
      (pss_one (ps_ret (cl O.thereA (hr.mono (by decide)) pass0 (pa_cons (pv 0) (pa_cons (pe_ix ix_list (pv 1) pe_int (fun _ _ => rfl)) (pa_cons (pe_ix ix_list (pv 1) pe_int (fun _ _ => rfl)) (pa_cons (pe_ix ix_list (pv 1) pe_int (fun _ _ => rfl)) pa_nil))))))))))))))), ?_⟩
    have hF := form_of hc
    have hf0 := hF
    generalize hL : L.take (callLen cc) = call at ht hF
    have hlen := hF.len
    have hsz : sizeLine = 16777216 := sizeLine_eq
    cases hF with
    | load b =>
      refine ⟨_, rfl, t, _, _, _, rfl, rfl, SqL.of ht, atI_nat (j := 0) rfl, ?_⟩
      refine ⟨_, rfl, rfl, _, rfl, ?_⟩
      refine ited (fun _ => ?_) (fun q => absurd rfl q)
      refine ⟨_, rfl, _, rfl, _, rfl, t, _, rfl, SqL.of ht, fun t2 ht2 => ?_⟩
      have e2 : cutV (iL (0 :: (b.length : Int) :: b)) (some 2) none = iL b := cutV_two hlen
      rw [e2]
      obtain ⟨b1, b2, b3, b4⟩ := load_bytes hok
      have s2 := Same.new (o := .lst (iL b)) ht2
      rw [step_load b1] at h
      exact ⟨hd, t2, o, VakepeNeutral.bytesOf b, G, rfl, HA.same s2, SqL.of (upd_same.trans (by rw [b3])), by rw [b4]; omega, h.grow s2 ht2⟩
    | packs l =>
      refine ⟨_, rfl, t, _, _, _, rfl, rfl, SqL.of ht, atI_nat (j := 0) rfl, ?_⟩
      refine ⟨_, rfl, rfl, _, rfl, ?_⟩
      refine ited (fun q => by cases q) (fun _ => ?_)
      cases o with
      | none =>
        obtain ⟨dx, l0, h1, _⟩ := id HA
        rw [step_none (k := .packs l) rfl (fun b z => by cases z)] at h
        refine ⟨_, rfl, hd, c.held, dx, _, _, rfl, h1, T.held.cl, T.held.no _ (by decide), heldF_p, _, rfl, ?_⟩
        exact iteT ⟨by show 1 ≤ sizeLine; omega, fun p hp => h _ G p (FrH.of (Same.new hp)) (HA.same (Same.new hp)) (fun _ _ y => .inl ⟨_, y⟩) hp upd_same⟩
      | some z =>
        obtain ⟨dx, g, l0, pa, kvs, os, h1, _⟩ := HA.all
        refine ⟨_, rfl, hd, c.held, dx, _, _, rfl, h1, T.held.cl, T.held.no _ (by decide), heldF_p, _, rfl, ?_⟩
        refine iteF ?_
        refine ⟨_, rfl, rfl, _, rfl, ?_⟩
        refine ited (fun _ => ?_) (fun q => absurd rfl q)
        refine ⟨_, rfl, _, rfl, _, rfl, t, _, rfl, SqL.of ht, fun t2 ht2 => ?_⟩
        have e2 : cutV (iL (1 :: (l.length : Int) :: l)) (some 2) none = iL l := cutV_two hlen
        rw [e2]
        have s2 := Same.new (o := .lst (iL l)) ht2
        rw [step_packs] at h
        exact ⟨hd, t2, z, l, G, rfl, HA.same s2, upd_same, h.grow s2 ht2⟩
    | cost m =>
      refine ⟨_, rfl, t, _, _, _, rfl, rfl, SqL.of ht, atI_nat (j := 0) rfl, ?_⟩
      refine ⟨_, rfl, rfl, _, rfl, ?_⟩
      refine ited (fun q => by cases q) (fun _ => ?_)
      cases o with
      | none =>
        obtain ⟨dx, l0, h1, _⟩ := id HA
        rw [step_none (k := .cost m) rfl (fun b z => by cases z)] at h
        refine ⟨_, rfl, hd, c.held, dx, _, _, rfl, h1, T.held.cl, T.held.no _ (by decide), heldF_p, _, rfl, ?_⟩
        exact iteT ⟨by show 1 ≤ sizeLine; omega, fun p hp => h _ G p (FrH.of (Same.new hp)) (HA.same (Same.new hp)) (fun _ _ y => .inl ⟨_, y⟩) hp upd_same⟩
      | some z =>
        obtain ⟨dx, g, l0, pa, kvs, os, h1, _⟩ := HA.all
        refine ⟨_, rfl, hd, c.held, dx, _, _, rfl, h1, T.held.cl, T.held.no _ (by decide), heldF_p, _, rfl, ?_⟩
        refine iteF ?_
        refine ⟨_, rfl, rfl, _, rfl, ?_⟩
        refine ited (fun q => by cases q) (fun _ => ?_)
        refine ⟨_, rfl, rfl, _, rfl, ?_⟩
        refine ited (fun _ => ?_) (fun q => absurd rfl q)
        rw [step_cost] at h
        exact ⟨_, rfl, _, rfl, t, _, _, _, rfl, rfl, SqL.of ht, atI_nat (j := 1) rfl, hd, z, m, G, rfl, HA, newEnds.ans h HA⟩
    | run e a =>
      refine ⟨_, rfl, t, _, _, _, rfl, rfl, SqL.of ht, atI_nat (j := 0) rfl, ?_⟩
      refine ⟨_, rfl, rfl, _, rfl, ?_⟩
      refine ited (fun q => by cases q) (fun _ => ?_)
      cases o with
      | none =>
        obtain ⟨dx, l0, h1, _⟩ := id HA
        rw [step_none (k := .run_ e a) rfl (fun b z => by cases z)] at h
        refine ⟨_, rfl, hd, c.held, dx, _, _, rfl, h1, T.held.cl, T.held.no _ (by decide), heldF_p, _, rfl, ?_⟩
        exact iteT ⟨by show 1 ≤ sizeLine; omega, fun p hp => h _ G p (FrH.of (Same.new hp)) (HA.same (Same.new hp)) (fun _ _ y => .inl ⟨_, y⟩) hp upd_same⟩
      | some z =>
        obtain ⟨dx, g, l0, pa, kvs, os, h1, _⟩ := HA.all
        refine ⟨_, rfl, hd, c.held, dx, _, _, rfl, h1, T.held.cl, T.held.no _ (by decide), heldF_p, _, rfl, ?_⟩
        refine iteF ?_
        refine ⟨_, rfl, rfl, _, rfl, ?_⟩
        refine ited (fun q => by cases q) (fun _ => ?_)
        refine ⟨_, rfl, rfl, _, rfl, ?_⟩
        refine ited (fun q => by cases q) (fun _ => ?_)
        refine ⟨_, rfl, rfl, _, rfl, ?_⟩
        refine ited (fun _ => ?_) (fun q => absurd rfl q)
        rw [step_run] at h
        exact ⟨_, rfl, _, rfl, t, _, _, _, rfl, rfl, SqL.of ht, atI_nat (j := 1) rfl, _, rfl, t, _, _, _, rfl, rfl, SqL.of ht, atI_nat (j := 2) rfl, hd, z, e, a, G, rfl, HA, newEnds.ans h HA⟩
    | before k =>
      refine ⟨_, rfl, t, _, _, _, rfl, rfl, SqL.of ht, atI_nat (j := 0) rfl, ?_⟩
      refine ⟨_, rfl, rfl, _, rfl, ?_⟩
      refine ited (fun q => by cases q) (fun _ => ?_)
      cases o with
      | none =>
        obtain ⟨dx, l0, h1, _⟩ := id HA
        rw [step_none (k := .before k) rfl (fun b z => by cases z)] at h
        refine ⟨_, rfl, hd, c.held, dx, _, _, rfl, h1, T.held.cl, T.held.no _ (by decide), heldF_p, _, rfl, ?_⟩
        exact iteT ⟨by show 1 ≤ sizeLine; omega, fun p hp => h _ G p (FrH.of (Same.new hp)) (HA.same (Same.new hp)) (fun _ _ y => .inl ⟨_, y⟩) hp upd_same⟩
      | some z =>
        obtain ⟨dx, g, l0, pa, kvs, os, h1, _⟩ := HA.all
        refine ⟨_, rfl, hd, c.held, dx, _, _, rfl, h1, T.held.cl, T.held.no _ (by decide), heldF_p, _, rfl, ?_⟩
        refine iteF ?_
        refine ⟨_, rfl, rfl, _, rfl, ?_⟩
        refine ited (fun q => by cases q) (fun _ => ?_)
        refine ⟨_, rfl, rfl, _, rfl, ?_⟩
        refine ited (fun q => by cases q) (fun _ => ?_)
        refine ⟨_, rfl, rfl, _, rfl, ?_⟩
        refine ited (fun q => by cases q) (fun _ => ?_)
        refine ⟨_, rfl, rfl, _, rfl, ?_⟩
        refine ited (fun _ => ?_) (fun q => absurd rfl q)
        rw [step_before] at h
        exact ⟨_, rfl, _, rfl, t, _, _, _, rfl, rfl, SqL.of ht, atI_nat (j := 1) rfl, hd, z, k, G, rfl, HA, newEnds.ans h HA⟩
    | best m k =>
      refine ⟨_, rfl, t, _, _, _, rfl, rfl, SqL.of ht, atI_nat (j := 0) rfl, ?_⟩
      refine ⟨_, rfl, rfl, _, rfl, ?_⟩
      refine ited (fun q => by cases q) (fun _ => ?_)
      cases o with
      | none =>
        obtain ⟨dx, l0, h1, _⟩ := id HA
        rw [step_none (k := .best m k) rfl (fun b z => by cases z)] at h
        refine ⟨_, rfl, hd, c.held, dx, _, _, rfl, h1, T.held.cl, T.held.no _ (by decide), heldF_p, _, rfl, ?_⟩
        exact iteT ⟨by show 1 ≤ sizeLine; omega, fun p hp => h _ G p (FrH.of (Same.new hp)) (HA.same (Same.new hp)) (fun _ _ y => .inl ⟨_, y⟩) hp upd_same⟩
      | some z =>
        obtain ⟨dx, g, l0, pa, kvs, os, h1, _⟩ := HA.all
        refine ⟨_, rfl, hd, c.held, dx, _, _, rfl, h1, T.held.cl, T.held.no _ (by decide), heldF_p, _, rfl, ?_⟩
        refine iteF ?_
        refine ⟨_, rfl, rfl, _, rfl, ?_⟩
        refine ited (fun q => by cases q) (fun _ => ?_)
        refine ⟨_, rfl, rfl, _, rfl, ?_⟩
        refine ited (fun q => by cases q) (fun _ => ?_)
        refine ⟨_, rfl, rfl, _, rfl, ?_⟩
        refine ited (fun q => by cases q) (fun _ => ?_)
        refine ⟨_, rfl, rfl, _, rfl, ?_⟩
        refine ited (fun q => by cases q) (fun _ => ?_)
        refine ⟨_, rfl, rfl, _, rfl, ?_⟩
        refine ited (fun _ => ?_) (fun q => absurd rfl q)
        rw [step_best] at h
        exact ⟨_, rfl, _, rfl, t, _, _, _, rfl, rfl, SqL.of ht, atI_nat (j := 1) rfl, _, rfl, t, _, _, _, rfl, rfl, SqL.of ht, atI_nat (j := 2) rfl, hd, z, m, k, G, rfl, HA, newEnds.ans h HA⟩
    | move k n =>
      refine ⟨_, rfl, t, _, _, _, rfl, rfl, SqL.of ht, atI_nat (j := 0) rfl, ?_⟩
      refine ⟨_, rfl, rfl, _, rfl, ?_⟩
      refine ited (fun q => by cases q) (fun _ => ?_)
      cases o with
      | none =>
        obtain ⟨dx, l0, h1, _⟩ := id HA
        rw [step_none (k := .move_ k n) rfl (fun b z => by cases z)] at h
        refine ⟨_, rfl, hd, c.held, dx, _, _, rfl, h1, T.held.cl, T.held.no _ (by decide), heldF_p, _, rfl, ?_⟩
        exact iteT ⟨by show 1 ≤ sizeLine; omega, fun p hp => h _ G p (FrH.of (Same.new hp)) (HA.same (Same.new hp)) (fun _ _ y => .inl ⟨_, y⟩) hp upd_same⟩
      | some z =>
        obtain ⟨dx, g, l0, pa, kvs, os, h1, _⟩ := HA.all
        refine ⟨_, rfl, hd, c.held, dx, _, _, rfl, h1, T.held.cl, T.held.no _ (by decide), heldF_p, _, rfl, ?_⟩
        refine iteF ?_
        refine ⟨_, rfl, rfl, _, rfl, ?_⟩
        refine ited (fun q => by cases q) (fun _ => ?_)
        refine ⟨_, rfl, rfl, _, rfl, ?_⟩
        refine ited (fun q => by cases q) (fun _ => ?_)
        refine ⟨_, rfl, rfl, _, rfl, ?_⟩
        refine ited (fun q => by cases q) (fun _ => ?_)
        refine ⟨_, rfl, rfl, _, rfl, ?_⟩
        refine ited (fun q => by cases q) (fun _ => ?_)
        refine ⟨_, rfl, rfl, _, rfl, ?_⟩
        refine ited (fun q => by cases q) (fun _ => ?_)
        refine ⟨_, rfl, rfl, _, rfl, ?_⟩
        refine ited (fun _ => ?_) (fun q => absurd rfl q)
        rw [step_move] at h
        exact ⟨_, rfl, _, rfl, t, _, _, _, rfl, rfl, SqL.of ht, atI_nat (j := 1) rfl, _, rfl, t, _, _, _, rfl, rfl, SqL.of ht, atI_nat (j := 2) rfl, hd, t, z, k, n, G, rfl, HA, h⟩
    | there e a k =>
      refine ⟨_, rfl, t, _, _, _, rfl, rfl, SqL.of ht, atI_nat (j := 0) rfl, ?_⟩
      refine ⟨_, rfl, rfl, _, rfl, ?_⟩
      refine ited (fun q => by cases q) (fun _ => ?_)
      cases o with
      | none =>
        obtain ⟨dx, l0, h1, _⟩ := id HA
        rw [step_none (k := .there e a k) rfl (fun b z => by cases z)] at h
        refine ⟨_, rfl, hd, c.held, dx, _, _, rfl, h1, T.held.cl, T.held.no _ (by decide), heldF_p, _, rfl, ?_⟩
        exact iteT ⟨by show 1 ≤ sizeLine; omega, fun p hp => h _ G p (FrH.of (Same.new hp)) (HA.same (Same.new hp)) (fun _ _ y => .inl ⟨_, y⟩) hp upd_same⟩
      | some z =>
        obtain ⟨dx, g, l0, pa, kvs, os, h1, _⟩ := HA.all
        refine ⟨_, rfl, hd, c.held, dx, _, _, rfl, h1, T.held.cl, T.held.no _ (by decide), heldF_p, _, rfl, ?_⟩
        refine iteF ?_
        refine ⟨_, rfl, rfl, _, rfl, ?_⟩
        refine ited (fun q => by cases q) (fun _ => ?_)
        refine ⟨_, rfl, rfl, _, rfl, ?_⟩
        refine ited (fun q => by cases q) (fun _ => ?_)
        refine ⟨_, rfl, rfl, _, rfl, ?_⟩
        refine ited (fun q => by cases q) (fun _ => ?_)
        refine ⟨_, rfl, rfl, _, rfl, ?_⟩
        refine ited (fun q => by cases q) (fun _ => ?_)
        refine ⟨_, rfl, rfl, _, rfl, ?_⟩
        refine ited (fun q => by cases q) (fun _ => ?_)
        refine ⟨_, rfl, rfl, _, rfl, ?_⟩
        refine ited (fun q => by cases q) (fun _ => ?_)
        rw [step_there] at h
        exact ⟨_, rfl, _, rfl, t, _, _, _, rfl, rfl, SqL.of ht, atI_nat (j := 1) rfl, _, rfl, t, _, _, _, rfl, rfl, SqL.of ht, atI_nat (j := 2) rfl, _, rfl, t, _, _, _, rfl, rfl, SqL.of ht, atI_nat (j := 3) rfl, hd, z, e, a, k, G, rfl, HA, newEnds.ans h HA⟩
/-- the whole, from the facts of the text -/
theorem fin_all {fa : Addr} {fF ab aw ds an ar : Addr} (hmg : mg "answers" = some (.ref fa)) (D : TxtD K mg c) (G : TxtG P w K mg c fF ab aw ds an ar) :
    ∃ fd : FuncData, (∀ (s : Shared) (us : List Value), us.length = (["calls"] : List Str).length → BindsTo s fd ⟨us, []⟩ ((["calls"] : List Str).zip us)) ∧ ∀ base : Heap, K.In base → base.Ns mainGlobals mg → FnOk P w K mg base CX0 ((87 + 1) + 1) fa fd ["calls"] (spAns K) :=
  fin_mk (by decide) hmg D G fun base => ok_ansOf D G.rd.cs G (ok_every D G)
end
end Pk
end
section
set_option Elab.async false
set_option linter.all false
set_option maxRecDepth 100000
set_option maxHeartbeats 4000000
namespace Pk
open PySem PySem.Spec PyProof.Rows L2
def intOf : Value → Option Int
  | .int i _ => some i
  | _ => none
def strOf : Value → Option Str
  | .str i _ => some i
  | _ => none
theorem intOf_is {v : Value} {i : Int} (h : intOf v = some i) : ∃ t, v = .int i t := by
  cases v <;> first | cases h | skip
  exact ⟨_, rfl⟩
theorem strOf_is {v : Value} {i : Str} (h : strOf v = some i) : ∃ t, v = .str i t := by
  cases v <;> first | cases h | skip
  exact ⟨_, rfl⟩
theorem vals_ints : ∀ {ns : List Nat} {us : List Value}, us.map intOf = ns.map (fun (n : Nat) => some (n : Int)) → Vals (nL ns) us
  | [], [], _ => .nil
  | [], _ :: _, h => by cases h
  | _ :: _, [], h => by cases h
  | n :: ns, u :: us, h => by
    rw [List.map_cons, List.map_cons] at h
    injection h with h1 h2
    exact .cons (intOf_is h1) (vals_ints h2)
theorem vals_strs : ∀ {zs : List Str} {us : List Value}, us.map strOf = zs.map some → Vals (zs.map V.str) us
  | [], [], _ => .nil
  | [], _ :: _, h => by cases h
  | _ :: _, [], h => by cases h
  | n :: ns, u :: us, h => by
    rw [List.map_cons, List.map_cons] at h
    injection h with h1 h2
    exact .cons (strOf_is h1) (vals_strs h2)
def entOf (e : DictEntry) : Option (Int × Str) := match intOf e.key, strOf e.val with
  | some i, some s => if e.hash = hashInt i then some (i, s) else none
  | _, _ => none
theorem entOf_is {e : DictEntry} {i : Int} {s : Str} (h : entOf e = some (i, s)) : ∃ t u, e.key = .int i t ∧ e.val = .str s u ∧ e.hash = hashInt i := by
  unfold entOf at h
  cases h1 : intOf e.key with
  | none => rw [h1] at h; cases h
  | some j =>
    cases h2 : strOf e.val with
    | none => rw [h1, h2] at h; cases h
    | some z =>
      rw [h1, h2] at h
      have h : (if e.hash = hashInt j then some (j, z) else none) = some (i, s) := h
      by_cases q : e.hash = hashInt j
      · rw [if_pos q] at h
        cases h
        obtain ⟨t, e1⟩ := intOf_is h1
        obtain ⟨u, e2⟩ := strOf_is h2
        exact ⟨t, u, e1, e2, q⟩
      · rw [if_neg q] at h
        cases h
def kvI (k : Int × Str) : Key × V := (.inl k.1, .str k.2)
theorem ents {P : Program} {w : World} : ∀ {es : List DictEntry} {ks : List (Int × Str)}, es.map entOf = ks.map some → ∃ vs : List (Key × Value), KV (ks.map kvI) vs ∧ (∀ e ∈ es, ∃ k, (mixKind P w).is k e.key = true ∧ e.hash = (mixKind P w).hash k) ∧ Pairs (mixKind P w) es vs ∧ vs.map (·.1) = ks.map fun k => (Sum.inl k.1 : Key)
  | [], [], _ => ⟨[], .nil, fun _ h => absurd h List.not_mem_nil, .nil, rfl⟩
  | [], _ :: _, h => by cases h
  | _ :: _, [], h => by cases h
  | e :: es, k :: ks, h => by
    rw [List.map_cons, List.map_cons] at h
    injection h with h1 h2
    obtain ⟨vs, a, b, c, d⟩ := ents (P := P) (w := w) h2
    obtain ⟨i, s⟩ := k
    obtain ⟨t, u, e1, e2, e3⟩ := entOf_is h1
    refine ⟨(.inl i, e.val) :: vs, .cons ⟨rfl, ?_⟩ a, fun x hx => ?_, .cons ?_ rfl c, ?_⟩
    · rw [e2]
      exact ⟨u, rfl⟩
    · rcases List.mem_cons.mp hx with z | z
      · rw [z]
        exact ⟨.inl i, by rw [e1]; exact keyIs_int i t, e3⟩
      · exact b x z
    · rw [e1]
      exact keyIs_int i t
    · rw [List.map_cons, List.map_cons, d]
theorem kdi_int {P : Program} {w : World} {K : PySem.W.Frag} {d : Addr} {es : Array DictEntry} {n : Nat} {ks : List (Int × Str)} (l : K.lookup d = some ⟨.type "dict", none, .dict es n, #[]⟩) (low : (d == sysModules) = false) (h : es.toList.map entOf = ks.map some) (nd : (ks.map fun k => (Sum.inl k.1 : Key)).Nodup) : KDI P w K d (ks.map kvI) := by
  obtain ⟨vs, a, b, c, e⟩ := ents (P := P) (w := w) h
  exact kdi_mk l low a (fun x hx => b x (by simpa using hx)) c (by rw [e]; exact nd)
def signKs : List (Int × Str) := [(43, "+"), (44, ","), (58, ":"), (59, ";"), (123, "{"), (125, "}")]
theorem sign_is : signKs.map kvI = signKV := rfl
theorem sign_kdi {P : Program} {w : World} {K : PySem.W.Frag} {d : Addr} {es : Array DictEntry} {n : Nat} (l : K.lookup d = some ⟨.type "dict", none, .dict es n, #[]⟩) (low : (d == sysModules) = false) (h : es.toList.map entOf = signKs.map some) : KDI P w K d signKV := by
  rw [← sign_is]
  exact kdi_int l low h (by decide)
def wordsZ : List Str := ["set", "part", "size", "start", "say", "call", "make", "when", "is"]
theorem words_is : wordsZ.map V.str = resV := by decide +kernel
theorem tup_ints {K : PySem.W.Frag} {a : Addr} {dd : Option Addr} {its : Array Value} {n : Nat} {sl : Array (Option Value)} {ns : List Nat} (l : K.lookup a = some ⟨.type "tuple", dd, .seq its n, sl⟩) (hs : its.size ≤ 1000) (h : its.toList.map intOf = ns.map (fun (n : Nat) => some (n : Int))) : ∀ H, SqT K H a (nL ns) :=
  gt_mk l (by rw [sizeLine_eq]; omega) (vals_ints h)
theorem tup_words {K : PySem.W.Frag} {a : Addr} {dd : Option Addr} {its : Array Value} {n : Nat} {sl : Array (Option Value)} (l : K.lookup a = some ⟨.type "tuple", dd, .seq its n, sl⟩) (hs : its.size ≤ 1000) (h : its.toList.map strOf = wordsZ.map some) : ∀ H, SqT K H a resV := by
  rw [← words_is]
  exact gt_mk l (by rw [sizeLine_eq]; omega) (vals_strs h)
end Pk
end
section
set_option Elab.async false
set_option linter.all false
set_option maxRecDepth 100000
set_option maxHeartbeats 4000000
namespace Pk
open PySem PySem.Spec PyProof.Rows L2
theorem g_mk {P : Program} {w : World} {K : PySem.W.Frag} {mg : Str → Option Value} {c : Cs} {fF ab aw ds an ar : Addr} (cs : CsT K c) (ft : PySem.FaultX.FTxt K mg c.fault fF) (e3 : GI mg "NOT_ALLOWED" (3)) (e4 : GI mg "TOO_MANY" (4)) (e5 : GI mg "NAME_TWICE" (5)) (e6 : GI mg "ENTRY_TWICE" (6)) (e7 : GI mg "BAD_NUMBER" (7)) (e8 : GI mg "UNKNOWN_NAME" (8)) (e9 : GI mg "UNKNOWN_CALL" (9)) (ms : GI mg "MOST_SETTINGS" (3)) (mw : GI mg "MOST_WORDS" (4)) (mp : GI mg "MOST_PARTS" (10)) (me : GI mg "MOST_ENTRIES" (4)) (mpi : GI mg "MOST_PIECES" (3)) (mwa : GI mg "MOST_WHENS_AROUND" (2)) (gsz : GI mg "GREATEST_SIZE" (99))
    (isay : IsiC K c c.say) (icall : IsiC K c c.call) (imake : IsiC K c c.make) (iwhen : IsiC K c c.when_) (n1 : c.say ≠ c.call) (n2 : c.say ≠ c.make) (n3 : c.say ≠ c.when_) (n4 : c.call ≠ c.make) (n5 : c.call ≠ c.when_) (n6 : c.make ≠ c.when_)
    (gCall : mg "Call" = some (.ref c.call)) (gMake : mg "Make" = some (.ref c.make)) (gWhen : mg "When" = some (.ref c.when_)) (isi : mg "isinstance" = none) (well : GI mg "WELL" (0)) (deep : GI mg "TOO_DEEP" (1)) (long : GI mg "TOO_LONG" (2)) (most : GI mg "MOST_DONE" (100)) (many : GI mg "TOO_MANY_AROUND" (9)) (ap : Apart c c.tok)
     (nolen : mg "len" = none) (norange : mg "range" = none) (noenum : mg "enumerate" = none) (nomax : mg "max" = none) (nosum : mg "sum" = none) (nolist : mg "list" = none) (nosort : mg "sorted" = none) (nomin : mg "min" = none) (le : GI mg "LINE_END" (10)) (re : GI mg "REMARK" (35)) (gb : mg "BLANKS" = some (.ref ab)) (tb : ∀ H, SqT K H ab (nL [32, 9, 10])) (md : GI mg "MOST_DIGITS" (10)) (ze : GI mg "ZERO" (48)) (nt : GI mg "NO_TOKEN" (2)) (gn : GI mg "GREATEST_NUMBER" (1000000000)) (ln : GI mg "LONGEST_NAME" (16))
    (gl : GS mg "GLYPHS" glyphs) (wo : mg "WORDS" = some (.ref aw)) (wt : ∀ H, SqT K H aw resV) (gS : mg "SIGNS" = some (.ref ds)) (dS : KDI P w K ds signKV) (len1 : GI mg "LENGTH" (1)) (lt : GI mg "LONGEST_TEXT" (4096)) (pk : GI mg "PACKS" (4)) (ne : GI mg "NO_ENTRY" (-2)) (na : GI mg "NO_ASSIGNMENT" (-3)) (bc : GI mg "BAD_COST" (-5)) (bp : GI mg "BAD_PACK" (-6)) (gc : GI mg "GREATEST_COST" (1000)) (np : GI mg "NO_PART" (-4)) (tm : GI mg "TOO_MUCH" (-7)) (mru : GI mg "MOST_RUNS" (32)) (mre : GI mg "MOST_REACHED" (6)) (nlo : GI mg "NO_LOAD" (-1)) (unr : GI mg "UNREACHED_PACK" (3)) (nprog : GI mg "NO_PROGRAM" (-1)) (c0 : GI mg "LOAD" (0)) (c1 : GI mg "PACKS_CALL" (1)) (c2 : GI mg "COST" (2)) (c3 : GI mg "RUN" (3)) (c4 : GI mg "BEFORE" (4)) (c5 : GI mg "BEST" (5)) (c6 : GI mg "MOVE" (6))
    (nu : mg "NUMBERS_TOLD" = some (.ref an)) (tn : ∀ H, SqT K H an (nL numbersTold)) (ro : mg "ROWS_TOLD" = some (.ref ar)) (tr : ∀ H, SqT K H ar (nL rowsTold)) : TxtG P w K mg c fF ab aw ds an ar :=
  ⟨⟨cs, ft, nolen, e3, e4, e5, e6, e7, e8, e9, ms, mw, mp, me, mpi, mwa, gsz⟩, ⟨cs, isay, icall, imake, iwhen, n1, n2, n3, n4, n5, n6, gCall, gMake, gWhen, isi, well, deep, long, most, many⟩, ap, nolen, norange, noenum, nomax, nosum, nolist, nosort, nomin, le, re, gb, tb, md, ze, nt, gn, ln, gl, wo, wt, gS, dS, len1, lt, pk, ne, na, bc, bp, gc, np, tm, mru, mre, nlo, unr, nprog, c0, c1, c2, c3, c4, c5, c6, nu, tn, ro, tr⟩
theorem ft_mk {K : PySem.W.Frag} {h : Heap} {mg : Str → Option Value} {C fI : Addr} {nm : Str} {q : Str} {N : Addr} {bs : List Value} {sn : List Str} {sub : List Value} {ab : Bool} {col : Option Bool} {dd : Option Addr} {k0 k1 k2 k3 k5 : Option Value}
    {oc : Value} {od : Option Addr} {doc pm : Value} {an : Option Addr} {cdv ct : Value} {osl : Array (Option Value)} {p1 p2 p3 q1 q2 q3 q4 r1 r2 r3 r4 : Pos} (X : K.In h) (G : h.Ns mainGlobals mg) (gC : PySem.W.nsIn K mainGlobals "Fault" = some (some (.ref C)))
    (xL : K.lookup C = some (PySem.excClassObj nm q C N bs [.type "Exception", .type "BaseException", .type "object"] true sn sub ab col dd k0 k1 k2 k3 k5 "Exception.__new__")) (sa : PySem.W.findIn K (.ref C) "__setattr__" = some (some (.builtin "object.__setattr__"))) (ga : PySem.W.findIn K (.ref C) "__getattribute__" = some (some (.builtin "BaseException.__getattribute__")))
    (gg : PySem.W.findIn K (.ref C) "__getattr__" = some none) (noC : PySem.W.findIn K (.ref C) "code" = some none) (noP : PySem.W.findIn K (.ref C) "place" = some none) (iC : PySem.W.findIn K (.ref C) "__init__" = some (some (.ref fI))) (tC : PySem.W.typeIn K (.ref fI) = some (.type "function")) (kC : PySem.W.keepIn K (.ref C) = true)
    (exC : PySem.W.subIn K (.ref C) (.type "BaseException") = some true) (tyC : PySem.W.typeIn K (.ref C) = some (.type "type")) (hdC : PySem.W.hasDictIn K C = true) (e2 : PySem.W.isClsIn K C = true) (e4 : PySem.W.subIn K (.ref C) (.ref C) = some true)
    (l : K.lookup fI = some ⟨oc, od, .func (PySem.W.fnOf "__init__" "Fault.__init__" (PySem.FaultX.fA p1 p2 p3) (PySem.FaultX.fB q1 q2 q3 q4 r1 r2 r3 r4) PySem.FaultX.fS .none .none doc pm an cdv ct), osl⟩) (cd : PySem.W.codeIn K cdv "Fault.__init__" = true) : PySem.FaultX.FTxt K mg C fI :=
  ⟨PySem.W.mg_of X G gC, ⟨nm, q, N, bs, _, sn, sub, ab, col, dd, k0, k1, k2, k3, k5, xL, rfl⟩, sa, ga, gg, noC, noP, iC, tC, kC, exC, tyC, hdC, exm_self exC e2 tyC e4, ⟨_, _, _, _, _, _, _, _, _, _, _, _, _, _, _, _, _, _, _, l, cd⟩⟩
theorem tokc_mk {K : PySem.W.Frag} {C : Addr} (cl : Cls K C) (k : PySem.W.findIn K (.ref C) "kind" = some none) (p : PySem.W.findIn K (.ref C) "place" = some none) (a : PySem.W.findIn K (.ref C) "after" = some none) (t : PySem.W.findIn K (.ref C) "text" = some none) (n : PySem.W.findIn K (.ref C) "number" = some none) : TokC K C := ⟨cl, k, p, a, t, n⟩
theorem fin_mk2 {P : Program} {w : World} {K : PySem.W.Frag} {mg : Str → Option Value} {fa : Addr} {say call make when_ part prog run tok reader held fault fF ab aw ds an ar : Addr} (hmg : mg "answers" = some (.ref fa)) (D : TxtD K mg ⟨say, call, make, when_, part, prog, run, tok, reader, held, fault⟩)
    (G : TxtG P w K mg ⟨say, call, make, when_, part, prog, run, tok, reader, held, fault⟩ fF ab aw ds an ar) :
    ∃ fd : FuncData, (∀ (s : Shared) (us : List Value), us.length = (["calls"] : List Str).length → BindsTo s fd ⟨us, []⟩ ((["calls"] : List Str).zip us)) ∧ ∀ base : Heap, K.In base → base.Ns mainGlobals mg → FnOk P w K mg base CX0 ((87 + 1) + 1) fa fd ["calls"] (spAns K) := fin_all hmg D G
end Pk
end
section
set_option Elab.async false
set_option maxRecDepth 100000
set_option maxHeartbeats 0
open PySem PySem.W PyProof.Rows
theorem PySem.Challenge.cw_partpacks_s01_answers_holds : PySem.Challenge.rw_partpacks_s01_answers.Holds := by
  w_on; k_headS; (case hw => exact ⟨[.list [.int 1, .int 0]], by decide +kernel, by decide +kernel⟩)
  k_fillS
  refine L2.walk_specK (r := PySem.Challenge.rw_partpacks_s01_answers) (k := 89) (CX := L2.CX0) (ps := ["calls"]) (sp := Pk.spAns) (by decide +kernel) rfl rfl ⟨rfl, by decide, by decide⟩ (fun w h Y => PySem.W.kIn_of Y) ?F ?S (fun _ _ _ _ z => z)
  case F =>
    intro w mg fa h Y KX G hmg
    refine' Pk.fin_mk2 hmg ⟨Pk.def_mk KX G ?a_pack_sizes ?l_pack_sizes ?c_pack_sizes ?k_pack_sizes,
      Pk.def_mk KX G ?a_loads_of ?l_loads_of ?c_loads_of ?k_loads_of,
      Pk.def_mk KX G ?a_run_cost ?l_run_cost ?c_run_cost ?k_run_cost,
      Pk.def_mk KX G ?a_all_costs ?l_all_costs ?c_all_costs ?k_all_costs,
      Pk.def_mk KX G ?a_plans_for ?l_plans_for ?c_plans_for ?k_plans_for,
      Pk.def_mk KX G ?a_best_plan ?l_best_plan ?c_best_plan ?k_best_plan,
      Pk.def_mk KX G ?a_assignment_count ?l_assignment_count ?c_assignment_count ?k_assignment_count,
      Pk.def_mk KX G ?a_words_chosen ?l_words_chosen ?c_words_chosen ?k_words_chosen,
      Pk.def_mk KX G ?a_made_name ?l_made_name ?c_made_name ?k_made_name,
      Pk.def_mk KX G ?a_tokens_of ?l_tokens_of ?c_tokens_of ?k_tokens_of,
      Pk.def_mk KX G ?a_token_start ?l_token_start ?c_token_start ?k_token_start,
      Pk.def_mk KX G ?a_remark_end ?l_remark_end ?c_remark_end ?k_remark_end,
      Pk.def_mk KX G ?a_token_at ?l_token_at ?c_token_at ?k_token_at,
      Pk.def_mk KX G ?a_number_at ?l_number_at ?c_number_at ?k_number_at,
      Pk.def_mk KX G ?a_name_at ?l_name_at ?c_name_at ?k_name_at,
      Pk.def_mk KX G ?a_is_digit ?l_is_digit ?c_is_digit ?k_is_digit,
      Pk.def_mk KX G ?a_is_letter ?l_is_letter ?c_is_letter ?k_is_letter,
      Pk.def_mk KX G ?a_read_program ?l_read_program ?c_read_program ?k_read_program,
      Pk.def_mk KX G ?a_run_through ?l_run_through ?c_run_through ?k_run_through,
      Pk.def_mk KX G ?a_all_entered ?l_all_entered ?c_all_entered ?k_all_entered,
      Pk.def_mk KX G ?a_reached_parts ?l_reached_parts ?c_reached_parts ?k_reached_parts,
      Pk.def_mk KX G ?a_leads_to ?l_leads_to ?c_leads_to ?k_leads_to,
      Pk.def_mk KX G ?a_parts_in_each ?l_parts_in_each ?c_parts_in_each ?k_parts_in_each,
      Pk.def_mk KX G ?a_answers ?l_answers ?c_answers ?k_answers,
      Pk.def_mk KX G ?a_call_end ?l_call_end ?c_call_end ?k_call_end,
      Pk.def_mk KX G ?a_answer_of ?l_answer_of ?c_answer_of ?k_answer_of,
      Pk.def_mk KX G ?a_is_one_of ?l_is_one_of ?c_is_one_of ?k_is_one_of,
      Pk.def_mk KX G ?a_is_cost ?l_is_cost ?c_is_cost ?k_is_cost,
      Pk.def_mk KX G ?a_load_answer ?l_load_answer ?c_load_answer ?k_load_answer,
      Pk.def_mk KX G ?a_packs_answer ?l_packs_answer ?c_packs_answer ?k_packs_answer,
      Pk.def_mk KX G ?a_cost_answer ?l_cost_answer ?c_cost_answer ?k_cost_answer,
      Pk.def_mk KX G ?a_run_refusal ?l_run_refusal ?c_run_refusal ?k_run_refusal,
      Pk.def_mk KX G ?a_run_answer ?l_run_answer ?c_run_answer ?k_run_answer,
      Pk.def_mk KX G ?a_before_answer ?l_before_answer ?c_before_answer ?k_before_answer,
      Pk.def_mk KX G ?a_best_answer ?l_best_answer ?c_best_answer ?k_best_answer,
      Pk.def_mk KX G ?a_move_answer ?l_move_answer ?c_move_answer ?k_move_answer,
      Pk.def_mk KX G ?a_there_answer ?l_there_answer ?c_there_answer ?k_there_answer,
      Pk.init_mk KX G ?n_Say_init ?a_Say_init ?l_Say_init ?i_Say_init ?c_Say_init ?k_Say_init ?mk_Say_init ?kc_Say_init (Pk.cls_mk ?dpg_Say ?dhd_Say ?dpo_Say ?dsa_Say),
      Pk.init_mk KX G ?n_Call_init ?a_Call_init ?l_Call_init ?i_Call_init ?c_Call_init ?k_Call_init ?mk_Call_init ?kc_Call_init (Pk.cls_mk ?dpg_Call ?dhd_Call ?dpo_Call ?dsa_Call),
      Pk.init_mk KX G ?n_Make_init ?a_Make_init ?l_Make_init ?i_Make_init ?c_Make_init ?k_Make_init ?mk_Make_init ?kc_Make_init (Pk.cls_mk ?dpg_Make ?dhd_Make ?dpo_Make ?dsa_Make),
      Pk.init_mk KX G ?n_When_init ?a_When_init ?l_When_init ?i_When_init ?c_When_init ?k_When_init ?mk_When_init ?kc_When_init (Pk.cls_mk ?dpg_When ?dhd_When ?dpo_When ?dsa_When),
      Pk.init_mk KX G ?n_Part_init ?a_Part_init ?l_Part_init ?i_Part_init ?c_Part_init ?k_Part_init ?mk_Part_init ?kc_Part_init (Pk.cls_mk ?dpg_Part ?dhd_Part ?dpo_Part ?dsa_Part),
      Pk.init_mk KX G ?n_Program_init ?a_Program_init ?l_Program_init ?i_Program_init ?c_Program_init ?k_Program_init ?mk_Program_init ?kc_Program_init (Pk.cls_mk ?dpg_Program ?dhd_Program ?dpo_Program ?dsa_Program),
      Pk.init_mk KX G ?n_Token_init ?a_Token_init ?l_Token_init ?i_Token_init ?c_Token_init ?k_Token_init ?mk_Token_init ?kc_Token_init (Pk.cls_mk ?dpg_Token ?dhd_Token ?dpo_Token ?dsa_Token),
      Pk.init_mk KX G ?n_Reader_init ?a_Reader_init ?l_Reader_init ?i_Reader_init ?c_Reader_init ?k_Reader_init ?mk_Reader_init ?kc_Reader_init (Pk.cls_mk ?dpg_Reader ?dhd_Reader ?dpo_Reader ?dsa_Reader),
      Pk.init_mk KX G ?n_Run_init ?a_Run_init ?l_Run_init ?i_Run_init ?c_Run_init ?k_Run_init ?mk_Run_init ?kc_Run_init (Pk.cls_mk ?dpg_Run ?dhd_Run ?dpo_Run ?dsa_Run),
      Pk.init_mk KX G ?n_Held_init ?a_Held_init ?l_Held_init ?i_Held_init ?c_Held_init ?k_Held_init ?mk_Held_init ?kc_Held_init (Pk.cls_mk ?dpg_Held ?dhd_Held ?dpo_Held ?dsa_Held),
      Pk.meth_mk ?a_Reader_kind_ahead ?l_Reader_kind_ahead ?i_Reader_kind_ahead ?c_Reader_kind_ahead ?k_Reader_kind_ahead,
      Pk.meth_mk ?a_Reader_take ?l_Reader_take ?i_Reader_take ?c_Reader_take ?k_Reader_take,
      Pk.meth_mk ?a_Reader_skip ?l_Reader_skip ?i_Reader_skip ?c_Reader_skip ?k_Reader_skip,
      Pk.meth_mk ?a_Reader_take_within ?l_Reader_take_within ?i_Reader_take_within ?c_Reader_take_within ?k_Reader_take_within,
      Pk.meth_mk ?a_Reader_take_size ?l_Reader_take_size ?i_Reader_take_size ?c_Reader_take_size ?k_Reader_take_size,
      Pk.meth_mk ?a_Reader_read_settings ?l_Reader_read_settings ?i_Reader_read_settings ?c_Reader_read_settings ?k_Reader_read_settings,
      Pk.meth_mk ?a_Reader_read_words ?l_Reader_read_words ?i_Reader_read_words ?c_Reader_read_words ?k_Reader_read_words,
      Pk.meth_mk ?a_Reader_read_parts ?l_Reader_read_parts ?i_Reader_read_parts ?c_Reader_read_parts ?k_Reader_read_parts,
      Pk.meth_mk ?a_Reader_read_part ?l_Reader_read_part ?i_Reader_read_part ?c_Reader_read_part ?k_Reader_read_part,
      Pk.meth_mk ?a_Reader_read_body ?l_Reader_read_body ?i_Reader_read_body ?c_Reader_read_body ?k_Reader_read_body,
      Pk.meth_mk ?a_Reader_read_statement ?l_Reader_read_statement ?i_Reader_read_statement ?c_Reader_read_statement ?k_Reader_read_statement,
      Pk.meth_mk ?a_Reader_read_call ?l_Reader_read_call ?i_Reader_read_call ?c_Reader_read_call ?k_Reader_read_call,
      Pk.meth_mk ?a_Reader_read_make ?l_Reader_read_make ?i_Reader_read_make ?c_Reader_read_make ?k_Reader_read_make,
      Pk.meth_mk ?a_Reader_read_when ?l_Reader_read_when ?i_Reader_read_when ?c_Reader_read_when ?k_Reader_read_when,
      Pk.meth_mk ?a_Reader_take_known ?l_Reader_take_known ?i_Reader_take_known ?c_Reader_take_known ?k_Reader_take_known,
      Pk.meth_mk ?a_Reader_read_entries ?l_Reader_read_entries ?i_Reader_read_entries ?c_Reader_read_entries ?k_Reader_read_entries,
      Pk.meth_mk ?a_Reader_check_calls ?l_Reader_check_calls ?i_Reader_check_calls ?c_Reader_check_calls ?k_Reader_check_calls,
      Pk.meth_mk ?a_Run_enter ?l_Run_enter ?i_Run_enter ?c_Run_enter ?k_Run_enter,
      Pk.meth_mk ?a_Run_do_all ?l_Run_do_all ?i_Run_do_all ?c_Run_do_all ?k_Run_do_all,
      Pk.meth_mk ?a_Run_do_one ?l_Run_do_one ?i_Run_do_one ?c_Run_do_one ?k_Run_do_one⟩ (Pk.g_mk ⟨⟨(Pk.cls_mk ?tpg_Say ?thd_Say ?tpo_Say ?tsa_Say), (Pk.no_cons ?no_Say_number Pk.no_nil)⟩, ⟨(Pk.cls_mk ?tpg_Call ?thd_Call ?tpo_Call ?tsa_Call), (Pk.no_cons ?no_Call_name Pk.no_nil)⟩, ⟨(Pk.cls_mk ?tpg_Make ?thd_Make ?tpo_Make ?tsa_Make), (Pk.no_cons ?no_Make_pieces Pk.no_nil)⟩, ⟨(Pk.cls_mk ?tpg_When ?thd_When ?tpo_When ?tsa_When), (Pk.no_cons ?no_When_setting (Pk.no_cons ?no_When_word (Pk.no_cons ?no_When_body Pk.no_nil)))⟩, ⟨(Pk.cls_mk ?tpg_Part ?thd_Part ?tpo_Part ?tsa_Part), (Pk.no_cons ?no_Part_size (Pk.no_cons ?no_Part_body Pk.no_nil))⟩, ⟨(Pk.cls_mk ?tpg_Program ?thd_Program ?tpo_Program ?tsa_Program), (Pk.no_cons ?no_Program_settings (Pk.no_cons ?no_Program_numbers (Pk.no_cons ?no_Program_parts (Pk.no_cons ?no_Program_entries Pk.no_nil))))⟩, ⟨(Pk.cls_mk ?tpg_Run ?thd_Run ?tpo_Run ?tsa_Run), (Pk.no_cons ?no_Run_program (Pk.no_cons ?no_Run_chosen (Pk.no_cons ?no_Run_entered (Pk.no_cons ?no_Run_done (Pk.no_cons ?no_Run_end Pk.no_nil)))))⟩, (Pk.tokc_mk (Pk.cls_mk ?tpg_Token ?thd_Token ?tpo_Token ?tsa_Token) ?no_Token_kind ?no_Token_place ?no_Token_after ?no_Token_text ?no_Token_number), ⟨(Pk.cls_mk ?tpg_Reader ?thd_Reader ?tpo_Reader ?tsa_Reader), (Pk.no_cons ?no_Reader_tokens (Pk.no_cons ?no_Reader_at (Pk.no_cons ?no_Reader_program (Pk.no_cons ?no_Reader_called Pk.no_nil))))⟩, ⟨(Pk.cls_mk ?tpg_Held ?thd_Held ?tpo_Held ?tsa_Held), (Pk.no_cons ?no_Held_program (Pk.no_cons ?no_Held_plan Pk.no_nil))⟩⟩ (Pk.ft_mk KX G ?g_Fault ?xL ?f_sa ?f_ga ?f_gg ?f_noC ?f_noP ?f_iC ?f_tC ?f_kC ?f_exC ?f_tyC ?f_hdC ?f_e2 ?f_e4 ?f_l ?f_c) (Pk.gi_mk KX G ?g_NOT_ALLOWED) (Pk.gi_mk KX G ?g_TOO_MANY) (Pk.gi_mk KX G ?g_NAME_TWICE) (Pk.gi_mk KX G ?g_ENTRY_TWICE) (Pk.gi_mk KX G ?g_BAD_NUMBER) (Pk.gi_mk KX G ?g_UNKNOWN_NAME) (Pk.gi_mk KX G ?g_UNKNOWN_CALL) (Pk.gi_mk KX G ?g_MOST_SETTINGS) (Pk.gi_mk KX G ?g_MOST_WORDS) (Pk.gi_mk KX G ?g_MOST_PARTS) (Pk.gi_mk KX G ?g_MOST_ENTRIES) (Pk.gi_mk KX G ?g_MOST_PIECES) (Pk.gi_mk KX G ?g_MOST_WHENS_AROUND) (Pk.gi_mk KX G ?g_GREATEST_SIZE) (Pk.isi_mk (Pk.cls_mk ?spg_Say ?shd_Say ?spo_Say ?ssa_Say) ?sha_Say ?shn_Say ?sht_Say ?shm_Say ?sa2_Say ?sa3_Say ?sa4_Say ?sb2_Say ?sb3_Say ?sb4_Say ?sd2_Say ?sd3_Say ?sd4_Say) (Pk.isi_mk (Pk.cls_mk ?spg_Call ?shd_Call ?spo_Call ?ssa_Call) ?sha_Call ?shn_Call ?sht_Call ?shm_Call ?sa2_Call ?sa3_Call ?sa4_Call ?sb2_Call ?sb3_Call ?sb4_Call ?sd2_Call ?sd3_Call ?sd4_Call) (Pk.isi_mk (Pk.cls_mk ?spg_Make ?shd_Make ?spo_Make ?ssa_Make) ?sha_Make ?shn_Make ?sht_Make ?shm_Make ?sa2_Make ?sa3_Make ?sa4_Make ?sb2_Make ?sb3_Make ?sb4_Make ?sd2_Make ?sd3_Make ?sd4_Make) (Pk.isi_mk (Pk.cls_mk ?spg_When ?shd_When ?spo_When ?ssa_When) ?sha_When ?shn_When ?sht_When ?shm_When ?sa2_When ?sa3_When ?sa4_When ?sb2_When ?sb3_When ?sb4_When ?sd2_When ?sd3_When ?sd4_When) ?n1 ?n2 ?n3 ?n4 ?n5 ?n6 (PySem.W.mg_of KX G ?g_Call) (PySem.W.mg_of KX G ?g_Make) (PySem.W.mg_of KX G ?g_When) (PySem.W.mg_none_of KX G ?z_isinstance) (Pk.gi_mk KX G ?g_WELL) (Pk.gi_mk KX G ?g_TOO_DEEP) (Pk.gi_mk KX G ?g_TOO_LONG) (Pk.gi_mk KX G ?g_MOST_DONE) (Pk.gi_mk KX G ?g_TOO_MANY_AROUND) ⟨?ap0, ?ap1, ?ap2, ?ap3, ?ap4, ?ap5⟩ (PySem.W.mg_none_of KX G ?z_len) (PySem.W.mg_none_of KX G ?z_range) (PySem.W.mg_none_of KX G ?z_enumerate) (PySem.W.mg_none_of KX G ?z_max) (PySem.W.mg_none_of KX G ?z_sum) (PySem.W.mg_none_of KX G ?z_list) (PySem.W.mg_none_of KX G ?z_sorted) (PySem.W.mg_none_of KX G ?z_min) (Pk.gi_mk KX G ?g_LINE_END) (Pk.gi_mk KX G ?g_REMARK) (PySem.W.mg_of KX G ?g_BLANKS) (Pk.tup_ints ?l_BLANKS ?sz_BLANKS ?v_BLANKS) (Pk.gi_mk KX G ?g_MOST_DIGITS) (Pk.gi_mk KX G ?g_ZERO) (Pk.gi_mk KX G ?g_NO_TOKEN) (Pk.gi_mk KX G ?g_GREATEST_NUMBER) (Pk.gi_mk KX G ?g_LONGEST_NAME) (Pk.gs_mk KX G ?g_GLYPHS) (PySem.W.mg_of KX G ?g_WORDS) (Pk.tup_words ?l_WORDS ?sz_WORDS ?v_WORDS) (PySem.W.mg_of KX G ?g_SIGNS) (Pk.sign_kdi ?l_SIGNS ?lo_SIGNS ?v_SIGNS) (Pk.gi_mk KX G ?g_LENGTH) (Pk.gi_mk KX G ?g_LONGEST_TEXT) (Pk.gi_mk KX G ?g_PACKS) (Pk.gi_mk KX G ?g_NO_ENTRY) (Pk.gi_mk KX G ?g_NO_ASSIGNMENT) (Pk.gi_mk KX G ?g_BAD_COST) (Pk.gi_mk KX G ?g_BAD_PACK) (Pk.gi_mk KX G ?g_GREATEST_COST) (Pk.gi_mk KX G ?g_NO_PART) (Pk.gi_mk KX G ?g_TOO_MUCH) (Pk.gi_mk KX G ?g_MOST_RUNS) (Pk.gi_mk KX G ?g_MOST_REACHED) (Pk.gi_mk KX G ?g_NO_LOAD) (Pk.gi_mk KX G ?g_UNREACHED_PACK) (Pk.gi_mk KX G ?g_NO_PROGRAM) (Pk.gi_mk KX G ?g_LOAD) (Pk.gi_mk KX G ?g_PACKS_CALL) (Pk.gi_mk KX G ?g_COST) (Pk.gi_mk KX G ?g_RUN) (Pk.gi_mk KX G ?g_BEFORE) (Pk.gi_mk KX G ?g_BEST) (Pk.gi_mk KX G ?g_MOVE) (PySem.W.mg_of KX G ?g_NUMBERS_TOLD) (Pk.tup_ints ?l_NUMBERS_TOLD ?sz_NUMBERS_TOLD ?v_NUMBERS_TOLD) (PySem.W.mg_of KX G ?g_ROWS_TOLD) (Pk.tup_ints ?l_ROWS_TOLD ?sz_ROWS_TOLD ?v_ROWS_TOLD))
    (case n_Say_init => k_is)
    (case n_Call_init => k_is)
    (case n_Make_init => k_is)
    (case n_When_init => k_is)
    (case n_Part_init => k_is)
    (case n_Program_init => k_is)
    (case n_Token_init => k_is)
    (case n_Reader_init => k_is)
    (case n_Run_init => k_is)
    (case n_Held_init => k_is)
    (case g_Fault => k_is)
    (case g_NOT_ALLOWED => k_is)
    (case g_TOO_MANY => k_is)
    (case g_NAME_TWICE => k_is)
    (case g_ENTRY_TWICE => k_is)
    (case g_BAD_NUMBER => k_is)
    (case g_UNKNOWN_NAME => k_is)
    (case g_UNKNOWN_CALL => k_is)
    (case g_MOST_SETTINGS => k_is)
    (case g_MOST_WORDS => k_is)
    (case g_MOST_PARTS => k_is)
    (case g_MOST_ENTRIES => k_is)
    (case g_MOST_PIECES => k_is)
    (case g_MOST_WHENS_AROUND => k_is)
    (case g_GREATEST_SIZE => k_is)
    (case g_Call => k_is)
    (case g_Make => k_is)
    (case g_When => k_is)
    (case g_WELL => k_is)
    (case g_TOO_DEEP => k_is)
    (case g_TOO_LONG => k_is)
    (case g_MOST_DONE => k_is)
    (case g_TOO_MANY_AROUND => k_is)
    (case g_LINE_END => k_is)
    (case g_REMARK => k_is)
    (case g_BLANKS => k_is)
    (case g_MOST_DIGITS => k_is)
    (case g_ZERO => k_is)
    (case g_NO_TOKEN => k_is)
    (case g_GREATEST_NUMBER => k_is)
    (case g_LONGEST_NAME => k_is)
    (case g_GLYPHS => k_is)
    (case g_WORDS => k_is)
    (case g_SIGNS => k_is)
    (case g_LENGTH => k_is)
    (case g_LONGEST_TEXT => k_is)
    (case g_PACKS => k_is)
    (case g_NO_ENTRY => k_is)
    (case g_NO_ASSIGNMENT => k_is)
    (case g_BAD_COST => k_is)
    (case g_BAD_PACK => k_is)
    (case g_GREATEST_COST => k_is)
    (case g_NO_PART => k_is)
    (case g_TOO_MUCH => k_is)
    (case g_MOST_RUNS => k_is)
    (case g_MOST_REACHED => k_is)
    (case g_NO_LOAD => k_is)
    (case g_UNREACHED_PACK => k_is)
    (case g_NO_PROGRAM => k_is)
    (case g_LOAD => k_is)
    (case g_PACKS_CALL => k_is)
    (case g_COST => k_is)
    (case g_RUN => k_is)
    (case g_BEFORE => k_is)
    (case g_BEST => k_is)
    (case g_MOVE => k_is)
    (case g_NUMBERS_TOLD => k_is)
    (case g_ROWS_TOLD => k_is)
    (case a_pack_sizes => k_is)
    (case a_loads_of => k_is)
    (case a_run_cost => k_is)
    (case a_all_costs => k_is)
    (case a_plans_for => k_is)
    (case a_best_plan => k_is)
    (case a_assignment_count => k_is)
    (case a_words_chosen => k_is)
    (case a_made_name => k_is)
    (case a_tokens_of => k_is)
    (case a_token_start => k_is)
    (case a_remark_end => k_is)
    (case a_token_at => k_is)
    (case a_number_at => k_is)
    (case a_name_at => k_is)
    (case a_is_digit => k_is)
    (case a_is_letter => k_is)
    (case a_read_program => k_is)
    (case a_run_through => k_is)
    (case a_all_entered => k_is)
    (case a_reached_parts => k_is)
    (case a_leads_to => k_is)
    (case a_parts_in_each => k_is)
    (case a_answers => k_is)
    (case a_call_end => k_is)
    (case a_answer_of => k_is)
    (case a_is_one_of => k_is)
    (case a_is_cost => k_is)
    (case a_load_answer => k_is)
    (case a_packs_answer => k_is)
    (case a_cost_answer => k_is)
    (case a_run_refusal => k_is)
    (case a_run_answer => k_is)
    (case a_before_answer => k_is)
    (case a_best_answer => k_is)
    (case a_move_answer => k_is)
    (case a_there_answer => k_is)
    (case a_Say_init => k_is)
    (case a_Call_init => k_is)
    (case a_Make_init => k_is)
    (case a_When_init => k_is)
    (case a_Part_init => k_is)
    (case a_Program_init => k_is)
    (case a_Token_init => k_is)
    (case a_Reader_init => k_is)
    (case a_Run_init => k_is)
    (case a_Held_init => k_is)
    (case a_Reader_kind_ahead => k_is)
    (case a_Reader_take => k_is)
    (case a_Reader_skip => k_is)
    (case a_Reader_take_within => k_is)
    (case a_Reader_take_size => k_is)
    (case a_Reader_read_settings => k_is)
    (case a_Reader_read_words => k_is)
    (case a_Reader_read_parts => k_is)
    (case a_Reader_read_part => k_is)
    (case a_Reader_read_body => k_is)
    (case a_Reader_read_statement => k_is)
    (case a_Reader_read_call => k_is)
    (case a_Reader_read_make => k_is)
    (case a_Reader_read_when => k_is)
    (case a_Reader_take_known => k_is)
    (case a_Reader_read_entries => k_is)
    (case a_Reader_check_calls => k_is)
    (case a_Run_enter => k_is)
    (case a_Run_do_all => k_is)
    (case a_Run_do_one => k_is)
    (case f_iC => k_is)
    (case l_pack_sizes => k_is)
    (case l_loads_of => k_is)
    (case l_run_cost => k_is)
    (case l_all_costs => k_is)
    (case l_plans_for => k_is)
    (case l_best_plan => k_is)
    (case l_assignment_count => k_is)
    (case l_words_chosen => k_is)
    (case l_made_name => k_is)
    (case l_tokens_of => k_is)
    (case l_token_start => k_is)
    (case l_remark_end => k_is)
    (case l_token_at => k_is)
    (case l_number_at => k_is)
    (case l_name_at => k_is)
    (case l_is_digit => k_is)
    (case l_is_letter => k_is)
    (case l_read_program => k_is)
    (case l_run_through => k_is)
    (case l_all_entered => k_is)
    (case l_reached_parts => k_is)
    (case l_leads_to => k_is)
    (case l_parts_in_each => k_is)
    (case l_answers => k_is)
    (case l_call_end => k_is)
    (case l_answer_of => k_is)
    (case l_is_one_of => k_is)
    (case l_is_cost => k_is)
    (case l_load_answer => k_is)
    (case l_packs_answer => k_is)
    (case l_cost_answer => k_is)
    (case l_run_refusal => k_is)
    (case l_run_answer => k_is)
    (case l_before_answer => k_is)
    (case l_best_answer => k_is)
    (case l_move_answer => k_is)
    (case l_there_answer => k_is)
    (case l_Say_init => k_is)
    (case l_Call_init => k_is)
    (case l_Make_init => k_is)
    (case l_When_init => k_is)
    (case l_Part_init => k_is)
    (case l_Program_init => k_is)
    (case l_Token_init => k_is)
    (case l_Reader_init => k_is)
    (case l_Run_init => k_is)
    (case l_Held_init => k_is)
    (case l_Reader_kind_ahead => k_is)
    (case l_Reader_take => k_is)
    (case l_Reader_skip => k_is)
    (case l_Reader_take_within => k_is)
    (case l_Reader_take_size => k_is)
    (case l_Reader_read_settings => k_is)
    (case l_Reader_read_words => k_is)
    (case l_Reader_read_parts => k_is)
    (case l_Reader_read_part => k_is)
    (case l_Reader_read_body => k_is)
    (case l_Reader_read_statement => k_is)
    (case l_Reader_read_call => k_is)
    (case l_Reader_read_make => k_is)
    (case l_Reader_read_when => k_is)
    (case l_Reader_take_known => k_is)
    (case l_Reader_read_entries => k_is)
    (case l_Reader_check_calls => k_is)
    (case l_Run_enter => k_is)
    (case l_Run_do_all => k_is)
    (case l_Run_do_one => k_is)
    (case xL => k_is)
    (case f_l => k_is)
    (case l_BLANKS => k_is)
    (case l_WORDS => k_is)
    (case l_SIGNS => k_is)
    (case l_NUMBERS_TOLD => k_is)
    (case l_ROWS_TOLD => k_is)
    (case c_pack_sizes => k_is)
    (case k_pack_sizes => k_is)
    (case c_loads_of => k_is)
    (case k_loads_of => k_is)
    (case c_run_cost => k_is)
    (case k_run_cost => k_is)
    (case c_all_costs => k_is)
    (case k_all_costs => k_is)
    (case c_plans_for => k_is)
    (case k_plans_for => k_is)
    (case c_best_plan => k_is)
    (case k_best_plan => k_is)
    (case c_assignment_count => k_is)
    (case k_assignment_count => k_is)
    (case c_words_chosen => k_is)
    (case k_words_chosen => k_is)
    (case c_made_name => k_is)
    (case k_made_name => k_is)
    (case c_tokens_of => k_is)
    (case k_tokens_of => k_is)
    (case c_token_start => k_is)
    (case k_token_start => k_is)
    (case c_remark_end => k_is)
    (case k_remark_end => k_is)
    (case c_token_at => k_is)
    (case k_token_at => k_is)
    (case c_number_at => k_is)
    (case k_number_at => k_is)
    (case c_name_at => k_is)
    (case k_name_at => k_is)
    (case c_is_digit => k_is)
    (case k_is_digit => k_is)
    (case c_is_letter => k_is)
    (case k_is_letter => k_is)
    (case c_read_program => k_is)
    (case k_read_program => k_is)
    (case c_run_through => k_is)
    (case k_run_through => k_is)
    (case c_all_entered => k_is)
    (case k_all_entered => k_is)
    (case c_reached_parts => k_is)
    (case k_reached_parts => k_is)
    (case c_leads_to => k_is)
    (case k_leads_to => k_is)
    (case c_parts_in_each => k_is)
    (case k_parts_in_each => k_is)
    (case c_answers => k_is)
    (case k_answers => k_is)
    (case c_call_end => k_is)
    (case k_call_end => k_is)
    (case c_answer_of => k_is)
    (case k_answer_of => k_is)
    (case c_is_one_of => k_is)
    (case k_is_one_of => k_is)
    (case c_is_cost => k_is)
    (case k_is_cost => k_is)
    (case c_load_answer => k_is)
    (case k_load_answer => k_is)
    (case c_packs_answer => k_is)
    (case k_packs_answer => k_is)
    (case c_cost_answer => k_is)
    (case k_cost_answer => k_is)
    (case c_run_refusal => k_is)
    (case k_run_refusal => k_is)
    (case c_run_answer => k_is)
    (case k_run_answer => k_is)
    (case c_before_answer => k_is)
    (case k_before_answer => k_is)
    (case c_best_answer => k_is)
    (case k_best_answer => k_is)
    (case c_move_answer => k_is)
    (case k_move_answer => k_is)
    (case c_there_answer => k_is)
    (case k_there_answer => k_is)
    (case i_Say_init => k_is)
    (case c_Say_init => k_is)
    (case k_Say_init => k_is)
    (case mk_Say_init => k_is)
    (case kc_Say_init => k_is)
    (case dpg_Say => k_is)
    (case dhd_Say => k_is)
    (case dpo_Say => k_is)
    (case dsa_Say => k_is)
    (case i_Call_init => k_is)
    (case c_Call_init => k_is)
    (case k_Call_init => k_is)
    (case mk_Call_init => k_is)
    (case kc_Call_init => k_is)
    (case dpg_Call => k_is)
    (case dhd_Call => k_is)
    (case dpo_Call => k_is)
    (case dsa_Call => k_is)
    (case i_Make_init => k_is)
    (case c_Make_init => k_is)
    (case k_Make_init => k_is)
    (case mk_Make_init => k_is)
    (case kc_Make_init => k_is)
    (case dpg_Make => k_is)
    (case dhd_Make => k_is)
    (case dpo_Make => k_is)
    (case dsa_Make => k_is)
    (case i_When_init => k_is)
    (case c_When_init => k_is)
    (case k_When_init => k_is)
    (case mk_When_init => k_is)
    (case kc_When_init => k_is)
    (case dpg_When => k_is)
    (case dhd_When => k_is)
    (case dpo_When => k_is)
    (case dsa_When => k_is)
    (case i_Part_init => k_is)
    (case c_Part_init => k_is)
    (case k_Part_init => k_is)
    (case mk_Part_init => k_is)
    (case kc_Part_init => k_is)
    (case dpg_Part => k_is)
    (case dhd_Part => k_is)
    (case dpo_Part => k_is)
    (case dsa_Part => k_is)
    (case i_Program_init => k_is)
    (case c_Program_init => k_is)
    (case k_Program_init => k_is)
    (case mk_Program_init => k_is)
    (case kc_Program_init => k_is)
    (case dpg_Program => k_is)
    (case dhd_Program => k_is)
    (case dpo_Program => k_is)
    (case dsa_Program => k_is)
    (case i_Token_init => k_is)
    (case c_Token_init => k_is)
    (case k_Token_init => k_is)
    (case mk_Token_init => k_is)
    (case kc_Token_init => k_is)
    (case dpg_Token => k_is)
    (case dhd_Token => k_is)
    (case dpo_Token => k_is)
    (case dsa_Token => k_is)
    (case i_Reader_init => k_is)
    (case c_Reader_init => k_is)
    (case k_Reader_init => k_is)
    (case mk_Reader_init => k_is)
    (case kc_Reader_init => k_is)
    (case dpg_Reader => k_is)
    (case dhd_Reader => k_is)
    (case dpo_Reader => k_is)
    (case dsa_Reader => k_is)
    (case i_Run_init => k_is)
    (case c_Run_init => k_is)
    (case k_Run_init => k_is)
    (case mk_Run_init => k_is)
    (case kc_Run_init => k_is)
    (case dpg_Run => k_is)
    (case dhd_Run => k_is)
    (case dpo_Run => k_is)
    (case dsa_Run => k_is)
    (case i_Held_init => k_is)
    (case c_Held_init => k_is)
    (case k_Held_init => k_is)
    (case mk_Held_init => k_is)
    (case kc_Held_init => k_is)
    (case dpg_Held => k_is)
    (case dhd_Held => k_is)
    (case dpo_Held => k_is)
    (case dsa_Held => k_is)
    (case i_Reader_kind_ahead => k_is)
    (case c_Reader_kind_ahead => k_is)
    (case k_Reader_kind_ahead => k_is)
    (case i_Reader_take => k_is)
    (case c_Reader_take => k_is)
    (case k_Reader_take => k_is)
    (case i_Reader_skip => k_is)
    (case c_Reader_skip => k_is)
    (case k_Reader_skip => k_is)
    (case i_Reader_take_within => k_is)
    (case c_Reader_take_within => k_is)
    (case k_Reader_take_within => k_is)
    (case i_Reader_take_size => k_is)
    (case c_Reader_take_size => k_is)
    (case k_Reader_take_size => k_is)
    (case i_Reader_read_settings => k_is)
    (case c_Reader_read_settings => k_is)
    (case k_Reader_read_settings => k_is)
    (case i_Reader_read_words => k_is)
    (case c_Reader_read_words => k_is)
    (case k_Reader_read_words => k_is)
    (case i_Reader_read_parts => k_is)
    (case c_Reader_read_parts => k_is)
    (case k_Reader_read_parts => k_is)
    (case i_Reader_read_part => k_is)
    (case c_Reader_read_part => k_is)
    (case k_Reader_read_part => k_is)
    (case i_Reader_read_body => k_is)
    (case c_Reader_read_body => k_is)
    (case k_Reader_read_body => k_is)
    (case i_Reader_read_statement => k_is)
    (case c_Reader_read_statement => k_is)
    (case k_Reader_read_statement => k_is)
    (case i_Reader_read_call => k_is)
    (case c_Reader_read_call => k_is)
    (case k_Reader_read_call => k_is)
    (case i_Reader_read_make => k_is)
    (case c_Reader_read_make => k_is)
    (case k_Reader_read_make => k_is)
    (case i_Reader_read_when => k_is)
    (case c_Reader_read_when => k_is)
    (case k_Reader_read_when => k_is)
    (case i_Reader_take_known => k_is)
    (case c_Reader_take_known => k_is)
    (case k_Reader_take_known => k_is)
    (case i_Reader_read_entries => k_is)
    (case c_Reader_read_entries => k_is)
    (case k_Reader_read_entries => k_is)
    (case i_Reader_check_calls => k_is)
    (case c_Reader_check_calls => k_is)
    (case k_Reader_check_calls => k_is)
    (case i_Run_enter => k_is)
    (case c_Run_enter => k_is)
    (case k_Run_enter => k_is)
    (case i_Run_do_all => k_is)
    (case c_Run_do_all => k_is)
    (case k_Run_do_all => k_is)
    (case i_Run_do_one => k_is)
    (case c_Run_do_one => k_is)
    (case k_Run_do_one => k_is)
    (case tpg_Token => k_is)
    (case thd_Token => k_is)
    (case tpo_Token => k_is)
    (case tsa_Token => k_is)
    (case no_Token_kind => k_is)
    (case no_Token_place => k_is)
    (case no_Token_after => k_is)
    (case no_Token_text => k_is)
    (case no_Token_number => k_is)
    (case no_Say_number => k_is)
    (case tpg_Say => k_is)
    (case thd_Say => k_is)
    (case tpo_Say => k_is)
    (case tsa_Say => k_is)
    (case no_Call_name => k_is)
    (case tpg_Call => k_is)
    (case thd_Call => k_is)
    (case tpo_Call => k_is)
    (case tsa_Call => k_is)
    (case no_Make_pieces => k_is)
    (case tpg_Make => k_is)
    (case thd_Make => k_is)
    (case tpo_Make => k_is)
    (case tsa_Make => k_is)
    (case no_When_body => k_is)
    (case no_When_word => k_is)
    (case no_When_setting => k_is)
    (case tpg_When => k_is)
    (case thd_When => k_is)
    (case tpo_When => k_is)
    (case tsa_When => k_is)
    (case no_Part_body => k_is)
    (case no_Part_size => k_is)
    (case tpg_Part => k_is)
    (case thd_Part => k_is)
    (case tpo_Part => k_is)
    (case tsa_Part => k_is)
    (case no_Program_entries => k_is)
    (case no_Program_parts => k_is)
    (case no_Program_numbers => k_is)
    (case no_Program_settings => k_is)
    (case tpg_Program => k_is)
    (case thd_Program => k_is)
    (case tpo_Program => k_is)
    (case tsa_Program => k_is)
    (case no_Run_end => k_is)
    (case no_Run_done => k_is)
    (case no_Run_entered => k_is)
    (case no_Run_chosen => k_is)
    (case no_Run_program => k_is)
    (case tpg_Run => k_is)
    (case thd_Run => k_is)
    (case tpo_Run => k_is)
    (case tsa_Run => k_is)
    (case no_Reader_called => k_is)
    (case no_Reader_program => k_is)
    (case no_Reader_at => k_is)
    (case no_Reader_tokens => k_is)
    (case tpg_Reader => k_is)
    (case thd_Reader => k_is)
    (case tpo_Reader => k_is)
    (case tsa_Reader => k_is)
    (case no_Held_plan => k_is)
    (case no_Held_program => k_is)
    (case tpg_Held => k_is)
    (case thd_Held => k_is)
    (case tpo_Held => k_is)
    (case tsa_Held => k_is)
    (case f_sa => k_is)
    (case f_ga => k_is)
    (case f_gg => k_is)
    (case f_noC => k_is)
    (case f_noP => k_is)
    (case f_tC => k_is)
    (case f_kC => k_is)
    (case f_exC => k_is)
    (case f_tyC => k_is)
    (case f_hdC => k_is)
    (case f_e2 => k_is)
    (case f_e4 => first | rfl | k_is)
    (case f_c => k_is)
    (case spg_Say => k_is)
    (case shd_Say => k_is)
    (case spo_Say => k_is)
    (case ssa_Say => k_is)
    (case sha_Say => k_is)
    (case shn_Say => k_is)
    (case sht_Say => k_is)
    (case shm_Say => k_is)
    (case sa2_Say => k_is)
    (case sa3_Say => k_is)
    (case sa4_Say => k_is)
    (case sb2_Say => k_is)
    (case sb3_Say => k_is)
    (case sb4_Say => k_is)
    (case sd2_Say => k_is)
    (case sd3_Say => k_is)
    (case sd4_Say => k_is)
    (case spg_Call => k_is)
    (case shd_Call => k_is)
    (case spo_Call => k_is)
    (case ssa_Call => k_is)
    (case sha_Call => k_is)
    (case shn_Call => k_is)
    (case sht_Call => k_is)
    (case shm_Call => k_is)
    (case sa2_Call => k_is)
    (case sa3_Call => k_is)
    (case sa4_Call => k_is)
    (case sb2_Call => k_is)
    (case sb3_Call => k_is)
    (case sb4_Call => k_is)
    (case sd2_Call => k_is)
    (case sd3_Call => k_is)
    (case sd4_Call => k_is)
    (case spg_Make => k_is)
    (case shd_Make => k_is)
    (case spo_Make => k_is)
    (case ssa_Make => k_is)
    (case sha_Make => k_is)
    (case shn_Make => k_is)
    (case sht_Make => k_is)
    (case shm_Make => k_is)
    (case sa2_Make => k_is)
    (case sa3_Make => k_is)
    (case sa4_Make => k_is)
    (case sb2_Make => k_is)
    (case sb3_Make => k_is)
    (case sb4_Make => k_is)
    (case sd2_Make => k_is)
    (case sd3_Make => k_is)
    (case sd4_Make => k_is)
    (case spg_When => k_is)
    (case shd_When => k_is)
    (case spo_When => k_is)
    (case ssa_When => k_is)
    (case sha_When => k_is)
    (case shn_When => k_is)
    (case sht_When => k_is)
    (case shm_When => k_is)
    (case sa2_When => k_is)
    (case sa3_When => k_is)
    (case sa4_When => k_is)
    (case sb2_When => k_is)
    (case sb3_When => k_is)
    (case sb4_When => k_is)
    (case sd2_When => k_is)
    (case sd3_When => k_is)
    (case sd4_When => k_is)
    (case n1 => decide)
    (case n2 => decide)
    (case n3 => decide)
    (case n4 => decide)
    (case n5 => decide)
    (case n6 => decide)
    (case z_isinstance => k_is)
    (case ap0 => decide)
    (case ap1 => decide)
    (case ap2 => decide)
    (case ap3 => decide)
    (case ap4 => decide)
    (case ap5 => decide)
    (case z_len => k_is)
    (case z_range => k_is)
    (case z_enumerate => k_is)
    (case z_max => k_is)
    (case z_sum => k_is)
    (case z_list => k_is)
    (case z_sorted => k_is)
    (case z_min => k_is)
    (case sz_BLANKS => decide)
    (case v_BLANKS => decide +kernel)
    (case sz_WORDS => decide)
    (case v_WORDS => decide +kernel)
    (case lo_SIGNS => decide +kernel)
    (case v_SIGNS => decide +kernel)
    (case sz_NUMBERS_TOLD => decide)
    (case v_NUMBERS_TOLD => decide +kernel)
    (case sz_ROWS_TOLD => decide)
    (case v_ROWS_TOLD => decide +kernel)
  case S =>
    intro K H xs a hO hwi hask hx
    cases hx with
    | cons h1 h2 =>
      cases h2
      cases h1 with
      | lst hs ha =>
        have e := L2.ints_dw a.1 _ ha
        subst e
        have q : ((Codec.inLen 0 17000 a.1 && a.1.all (Codec.inInt (-1000000000000000000) 1000000000000000000)) && true) = true := hwi
        rw [Bool.and_eq_true, Bool.and_eq_true] at q
        have hask : PyVakepe.answers_asked a.1 = true := hask
        obtain ⟨cs, AS, e⟩ := Pk.asked_is hask
        refine ⟨_, a.1, cs, rfl, hs, (Codec.inNat_iff.mp q.1.1).2, AS, fun H' p hp => ?_⟩
        rw [← e] at hp
        exact .lst (L2.SqL.of hp) (L2.dw_ints _)
end
