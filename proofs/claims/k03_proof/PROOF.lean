import PyProof.Rows.All
import Wide.All
import OpenK.AllK
import Wide.FinOn
import HandS.ForMost
import HandS.Defaults
import PySem.Challenge.RW_queuemill_k03_by_its_text
import HandS.IsInst
import HandS.TupAny
import HandS.Small
import HandS.Evl
import PyProof.NeKinds
import HandS.Star
import PyProof.DictUpdate
import PyProof.Rows.MatchSeqLen
import PyProof.RulesMatchSeq
import HandS.HeadHook1
import HandS.HeadHook2
import HandS.HeadHook3
import KE.GoesMore
import KE.GoesEnum
import HandS.Iter
import PyProof.EnumMake
import PyProof.Draws
import HandS.WordsExc
import HandS.TryMany
import HandS.ExcField
import HandS.ExcSuper
import HandS.Flow
import KE.KSuper
import KE.KExcSuper
import PyProof.ExcBaseAll.Exception
import HandS.ExcOwn
import KE.KStateDown
import HandS.Head0
import HandS.Head1
import HandS.Head2
import HandS.HeadEnd
import HandS.HeadHook4
import HandS.Zip
import HandS.Rev
import HandS.NoneIn
import PyProof.FString
import PyProof.FString4
import HandS.Ends
set_option Elab.async false
set_option linter.all false
section
set_option maxRecDepth 100000
namespace K3
open PySem PySem.Spec PyProof.Rows L2
def top (i : Nat) : Stmt := PySem.Challenge.pw_queuemill_k03_by_its_text.main.body.getD i (.Pass ⟨0, 0, 0, 0⟩)
abbrev FnP (K : PySem.W.Frag) (x ql : Str) (st : Stmt) (f : Addr) (fd : FuncData) : Prop := FunD K x ql (defArgs st) (defBody st) (defScope st) [] [] f fd
abbrev s_BadProgram_init : Stmt := inClass (top 2) 0
abbrev s_is_number : Stmt := top 9
abbrev s_places_behind : Stmt := top 10
abbrev s_parts_of : Stmt := top 11
abbrev s_bodies_of : Stmt := top 12
abbrev s_check_program : Stmt := top 23
abbrev s_check_fuel : Stmt := top 24
abbrev s_params_of : Stmt := top 25
abbrev s_fun_flaw : Stmt := top 26
abbrev s_body_flaw : Stmt := top 27
abbrev s_things_within : Stmt := top 28
abbrev s_bound_flaw : Stmt := top 29
abbrev s_shape_flaw : Stmt := top 30
abbrev s_number_flaw : Stmt := top 31
abbrev s_takes : Stmt := top 32
abbrev s_Fault_init : Stmt := inClass (top 38) 0
abbrev s_World_init : Stmt := inClass (top 40) 0
abbrev s_World_held_in : Stmt := inClass (top 40) 1
abbrev s_World_put_in : Stmt := inClass (top 40) 2
abbrev s_World_worth_here : Stmt := inClass (top 40) 3
abbrev s_World_spend_on_call : Stmt := inClass (top 40) 4
abbrev s_World_spend : Stmt := inClass (top 40) 5
abbrev s_check_cell : Stmt := top 41
abbrev s_in_stretch : Stmt := top 42
abbrev s_worth_of : Stmt := top 43
abbrev s_divided : Stmt := top 44
abbrev s_run : Stmt := top 46
abbrev s_Frame_init : Stmt := inClass (top 47) 0
abbrev s_Frame_lay_ahead : Stmt := inClass (top 47) 1
abbrev s_Frame_take_worths : Stmt := inClass (top 47) 2
abbrev s_Doing_init : Stmt := inClass (top 48) 0
abbrev s_Doing_told_at_last : Stmt := inClass (top 48) 1
abbrev s_Doing_step : Stmt := inClass (top 48) 2
abbrev s_Doing_finish : Stmt := inClass (top 48) 3
abbrev s_Doing_enter : Stmt := inClass (top 48) 4
abbrev s_Doing_leave : Stmt := inClass (top 48) 5
abbrev s_law_dice : Stmt := top 50
abbrev s_law_next : Stmt := top 51
abbrev s_law_like : Stmt := top 52
abbrev s_law_leaf : Stmt := top 53
abbrev s_law_part : Stmt := top 54
abbrev s_law_one : Stmt := top 55
abbrev s_law_deed : Stmt := top 56
abbrev s_law_while : Stmt := top 57
abbrev s_law_body : Stmt := top 58
abbrev s_law_things : Stmt := top 59
abbrev s_law_tower : Stmt := top 60
abbrev s_law_program : Stmt := top 61
abbrev s_law_ring : Stmt := top 62
abbrev s_law_pair : Stmt := top 63
abbrev s_law_fresh : Stmt := top 64
abbrev s_law_inner : Stmt := top 65
abbrev s_law_go : Stmt := top 66
abbrev s_law_begin : Stmt := top 67
abbrev s_law_goes : Stmt := top 68
abbrev s_law_call : Stmt := top 69
abbrev s_law_deed_done : Stmt := top 70
abbrev s_law_run : Stmt := top 71
abbrev s_law_fuel : Stmt := top 72
abbrev s_law : Stmt := top 73
theorem sc_is_number : FnScope ["thing"] ["thing"] (defScope s_is_number) := ⟨rfl, rfl, rfl, by decide +kernel, rfl, by decide +kernel, by decide +kernel⟩
theorem sc_places_behind : FnScope ["word"] ["word"] (defScope s_places_behind) := ⟨rfl, rfl, rfl, by decide +kernel, rfl, by decide +kernel, by decide +kernel⟩
theorem sc_parts_of : FnScope ["thing", "place", "item"] ["thing"] (defScope s_parts_of) := ⟨rfl, rfl, rfl, by decide +kernel, rfl, by decide +kernel, by decide +kernel⟩
theorem sc_bodies_of : FnScope ["thing", "place", "item"] ["thing"] (defScope s_bodies_of) := ⟨rfl, rfl, rfl, by decide +kernel, rfl, by decide +kernel, by decide +kernel⟩
theorem sc_check_program : FnScope ["program", "fun", "params", "number", "flaw", "at", "why"] ["program"] (defScope s_check_program) := ⟨rfl, rfl, rfl, by decide +kernel, rfl, by decide +kernel, by decide +kernel⟩
theorem sc_check_fuel : FnScope ["fuel"] ["fuel"] (defScope s_check_fuel) := ⟨rfl, rfl, rfl, by decide +kernel, rfl, by decide +kernel, by decide +kernel⟩
theorem sc_params_of : FnScope ["fun"] ["fun"] (defScope s_params_of) := ⟨rfl, rfl, rfl, by decide +kernel, rfl, by decide +kernel, by decide +kernel⟩
theorem sc_fun_flaw : FnScope ["number", "fun", "params", "handed", "most", "_", "names", "body"] ["number", "fun", "params"] (defScope s_fun_flaw) := ⟨rfl, rfl, rfl, by decide +kernel, rfl, by decide +kernel, by decide +kernel⟩
theorem sc_body_flaw : FnScope ["body", "names", "params", "todo", "at", "wide", "thing", "around", "why", "deed"] ["body", "names", "params"] (defScope s_body_flaw) := ⟨rfl, rfl, rfl, by decide +kernel, rfl, by decide +kernel, by decide +kernel⟩
theorem sc_things_within : FnScope ["thing", "around", "found", "body", "part", "deed"] ["thing", "around"] (defScope s_things_within) := ⟨rfl, rfl, rfl, by decide +kernel, rfl, by decide +kernel, by decide +kernel⟩
theorem sc_bound_flaw : FnScope ["at", "around", "wide"] ["at", "around", "wide"] (defScope s_bound_flaw) := ⟨rfl, rfl, rfl, by decide +kernel, rfl, by decide +kernel, by decide +kernel⟩
theorem sc_shape_flaw : FnScope ["thing", "around", "known", "place", "item"] ["thing", "around"] (defScope s_shape_flaw) := ⟨rfl, rfl, rfl, by decide +kernel, rfl, by decide +kernel, by decide +kernel⟩
theorem sc_number_flaw : FnScope ["thing", "names", "params", "place", "item"] ["thing", "names", "params"] (defScope s_number_flaw) := ⟨rfl, rfl, rfl, by decide +kernel, rfl, by decide +kernel, by decide +kernel⟩
theorem sc_takes : FnScope ["fun", "many", "params"] ["fun", "many", "params"] (defScope s_takes) := ⟨rfl, rfl, rfl, by decide +kernel, rfl, by decide +kernel, by decide +kernel⟩
theorem sc_World_init : FnScope ["self", "fuel"] ["self", "fuel"] (defScope s_World_init) := ⟨rfl, rfl, rfl, by decide +kernel, rfl, by decide +kernel, by decide +kernel⟩
theorem sc_World_held_in : FnScope ["self", "cell"] ["self", "cell"] (defScope s_World_held_in) := ⟨rfl, rfl, rfl, by decide +kernel, rfl, by decide +kernel, by decide +kernel⟩
theorem sc_World_put_in : FnScope ["self", "cell", "worth"] ["self", "cell", "worth"] (defScope s_World_put_in) := ⟨rfl, rfl, rfl, by decide +kernel, rfl, by decide +kernel, by decide +kernel⟩
theorem sc_World_worth_here : FnScope ["self", "row", "names", "worths", "word"] ["self", "row", "names", "worths"] (defScope s_World_worth_here) := ⟨rfl, rfl, rfl, by decide +kernel, rfl, by decide +kernel, by decide +kernel⟩
theorem sc_World_spend_on_call : FnScope ["self", "waiting"] ["self", "waiting"] (defScope s_World_spend_on_call) := ⟨rfl, rfl, rfl, by decide +kernel, rfl, by decide +kernel, by decide +kernel⟩
theorem sc_World_spend : FnScope ["self"] ["self"] (defScope s_World_spend) := ⟨rfl, rfl, rfl, by decide +kernel, rfl, by decide +kernel, by decide +kernel⟩
theorem sc_check_cell : FnScope ["cell"] ["cell"] (defScope s_check_cell) := ⟨rfl, rfl, rfl, by decide +kernel, rfl, by decide +kernel, by decide +kernel⟩
theorem sc_in_stretch : FnScope ["number"] ["number"] (defScope s_in_stretch) := ⟨rfl, rfl, rfl, by decide +kernel, rfl, by decide +kernel, by decide +kernel⟩
theorem sc_worth_of : FnScope ["word", "worths", "one", "other"] ["word", "worths"] (defScope s_worth_of) := ⟨rfl, rfl, rfl, by decide +kernel, rfl, by decide +kernel, by decide +kernel⟩
theorem sc_divided : FnScope ["word", "one", "other"] ["word", "one", "other"] (defScope s_divided) := ⟨rfl, rfl, rfl, by decide +kernel, rfl, by decide +kernel, by decide +kernel⟩
theorem sc_run : FnScope ["program", "fuel", "world", "end", "fault"] ["program", "fuel"] (defScope s_run) := ⟨rfl, rfl, rfl, by decide +kernel, rfl, by decide +kernel, by decide +kernel⟩
theorem sc_Frame_init : FnScope ["self", "fun", "handed", "_", "names", "body"] ["self", "fun", "handed"] (defScope s_Frame_init) := ⟨rfl, rfl, rfl, by decide +kernel, rfl, by decide +kernel, by decide +kernel⟩
theorem sc_Frame_lay_ahead : FnScope ["self", "things", "thing"] ["self", "things"] (defScope s_Frame_lay_ahead) := ⟨rfl, rfl, rfl, by decide +kernel, rfl, by decide +kernel, by decide +kernel⟩
theorem sc_Frame_take_worths : FnScope ["self", "many", "start", "taken"] ["self", "many"] (defScope s_Frame_take_worths) := ⟨rfl, rfl, rfl, by decide +kernel, rfl, by decide +kernel, by decide +kernel⟩
theorem sc_Doing_init : FnScope ["self", "program", "world"] ["self", "program", "world"] (defScope s_Doing_init) := ⟨rfl, rfl, rfl, by decide +kernel, rfl, by decide +kernel, by decide +kernel⟩
theorem sc_Doing_told_at_last : FnScope ["self", "frame"] ["self"] (defScope s_Doing_told_at_last) := ⟨rfl, rfl, rfl, by decide +kernel, rfl, by decide +kernel, by decide +kernel⟩
theorem sc_Doing_step : FnScope ["self", "frame", "parts_are_done", "thing"] ["self", "frame"] (defScope s_Doing_step) := ⟨rfl, rfl, rfl, by decide +kernel, rfl, by decide +kernel, by decide +kernel⟩
theorem sc_Doing_finish : FnScope ["self", "frame", "thing", "worths", "name", "body", "other", "fun"] ["self", "frame", "thing", "worths"] (defScope s_Doing_finish) := ⟨rfl, rfl, rfl, by decide +kernel, rfl, by decide +kernel, by decide +kernel⟩
theorem sc_Doing_enter : FnScope ["self", "fun", "handed"] ["self", "fun", "handed"] (defScope s_Doing_enter) := ⟨rfl, rfl, rfl, by decide +kernel, rfl, by decide +kernel, by decide +kernel⟩
theorem sc_Doing_leave : FnScope ["self", "worth"] ["self", "worth"] (defScope s_Doing_leave) := ⟨rfl, rfl, rfl, by decide +kernel, rfl, by decide +kernel, by decide +kernel⟩
theorem sc_law_dice : FnScope ["_law_script", "_law_mixed", "_law_cell"] ["_law_script"] (defScope s_law_dice) := ⟨rfl, rfl, rfl, by decide +kernel, rfl, by decide +kernel, by decide +kernel⟩
theorem sc_law_next : FnScope ["_law_dice_here", "_law_many", "_law_found", "_law_cell"] ["_law_dice_here", "_law_many"] (defScope s_law_next) := ⟨rfl, rfl, rfl, by decide +kernel, rfl, by decide +kernel, by decide +kernel⟩
theorem sc_law_like : FnScope ["_law_found", "_law_due", "_law_k"] ["_law_found", "_law_due"] (defScope s_law_like) := ⟨rfl, rfl, rfl, by decide +kernel, rfl, by decide +kernel, by decide +kernel⟩
theorem sc_law_leaf : FnScope ["_law_d", "_law_names"] ["_law_d", "_law_names"] (defScope s_law_leaf) := ⟨rfl, rfl, rfl, by decide +kernel, rfl, by decide +kernel, by decide +kernel⟩
theorem sc_law_part : FnScope ["_law_d", "_law_w", "_law_room", "_law_way", "_law_words", "_law_one_here", "_law_fun", "_law_k"] ["_law_d", "_law_w", "_law_room"] (defScope s_law_part) := ⟨rfl, rfl, rfl, by decide +kernel, rfl, by decide +kernel, by decide +kernel⟩
theorem sc_law_one : FnScope ["_law_d", "_law_w", "_law_most", "_law_found"] ["_law_d", "_law_w", "_law_most"] (defScope s_law_one) := ⟨rfl, rfl, rfl, by decide +kernel, rfl, by decide +kernel, by decide +kernel⟩
theorem sc_law_deed : FnScope ["_law_d", "_law_w", "_law_deep", "_law_way"] ["_law_d", "_law_w", "_law_deep"] (defScope s_law_deed) := ⟨rfl, rfl, rfl, by decide +kernel, rfl, by decide +kernel, by decide +kernel⟩
theorem sc_law_while : FnScope ["_law_d", "_law_w", "_law_deep", "_law_body_here", "_law_name", "_law_last", "_law_cell"] ["_law_d", "_law_w", "_law_deep"] (defScope s_law_while) := ⟨rfl, rfl, rfl, by decide +kernel, rfl, by decide +kernel, by decide +kernel⟩
theorem sc_law_body : FnScope ["_law_d", "_law_w", "_law_deep", "_law_k"] ["_law_d", "_law_w", "_law_deep"] (defScope s_law_body) := ⟨rfl, rfl, rfl, by decide +kernel, rfl, by decide +kernel, by decide +kernel⟩
theorem sc_law_things : FnScope ["_law_thing", "_law_own", "_law_one_here"] ["_law_thing"] (defScope s_law_things) := ⟨rfl, rfl, rfl, by decide +kernel, rfl, by decide +kernel, by decide +kernel⟩
theorem sc_law_tower : FnScope ["_law_d", "_law_body_here", "_law_turn", "_law_cell", "_law_last", "_law_around"] ["_law_d", "_law_body_here"] (defScope s_law_tower) := ⟨rfl, rfl, rfl, by decide +kernel, rfl, by decide +kernel, by decide +kernel⟩
theorem sc_law_program : FnScope ["_law_d", "_law_many", "_law_k", "_law_params", "_law_found", "_law_names", "_law_w", "_law_body_here"] ["_law_d"] (defScope s_law_program) := ⟨rfl, rfl, rfl, by decide +kernel, rfl, by decide +kernel, by decide +kernel⟩
theorem sc_law_ring : FnScope ["_law_number"] ["_law_number"] (defScope s_law_ring) := ⟨rfl, rfl, rfl, by decide +kernel, rfl, by decide +kernel, by decide +kernel⟩
theorem sc_law_pair : FnScope ["_law_word", "_law_one_here", "_law_other"] ["_law_word", "_law_one_here", "_law_other"] (defScope s_law_pair) := ⟨rfl, rfl, rfl, by decide +kernel, rfl, by decide +kernel, by decide +kernel⟩
theorem sc_law_fresh : FnScope ["_law_program_here", "_law_fuel_here", "_law_w"] ["_law_program_here", "_law_fuel_here"] (defScope s_law_fresh) := ⟨rfl, rfl, rfl, by decide +kernel, rfl, by decide +kernel, by decide +kernel⟩
theorem sc_law_inner : FnScope ["_law_thing", "_law_many"] ["_law_thing"] (defScope s_law_inner) := ⟨rfl, rfl, rfl, by decide +kernel, rfl, by decide +kernel, by decide +kernel⟩
theorem sc_law_go : FnScope ["_law_w", "_law_thing", "_law_sort", "_law_more", "_law_worth"] ["_law_w"] (defScope s_law_go) := ⟨rfl, rfl, rfl, by decide +kernel, rfl, by decide +kernel, by decide +kernel⟩
theorem sc_law_begin : FnScope ["_law_w", "_law_thing", "_law_worths", "_law_some", "_law_found"] ["_law_w", "_law_thing", "_law_worths"] (defScope s_law_begin) := ⟨rfl, rfl, rfl, by decide +kernel, rfl, by decide +kernel, by decide +kernel⟩
theorem sc_law_goes : FnScope ["_law_w"] ["_law_w"] (defScope s_law_goes) := ⟨rfl, rfl, rfl, by decide +kernel, rfl, by decide +kernel, by decide +kernel⟩
theorem sc_law_call : FnScope ["_law_w", "_law_thing", "_law_worths", "_law_params", "_law_names", "_law_body_here"] ["_law_w", "_law_thing", "_law_worths"] (defScope s_law_call) := ⟨rfl, rfl, rfl, by decide +kernel, rfl, by decide +kernel, by decide +kernel⟩
theorem sc_law_deed_done : FnScope ["_law_w", "_law_deed_here", "_law_worths", "_law_word"] ["_law_w", "_law_deed_here", "_law_worths"] (defScope s_law_deed_done) := ⟨rfl, rfl, rfl, by decide +kernel, rfl, by decide +kernel, by decide +kernel⟩
theorem sc_law_run : FnScope ["_law_program_here", "_law_fuel_here", "_law_w"] ["_law_program_here", "_law_fuel_here"] (defScope s_law_run) := ⟨rfl, rfl, rfl, by decide +kernel, rfl, by decide +kernel, by decide +kernel⟩
theorem sc_law_fuel : FnScope ["_law_d"] ["_law_d"] (defScope s_law_fuel) := ⟨rfl, rfl, rfl, by decide +kernel, rfl, by decide +kernel, by decide +kernel⟩
theorem sc_law : FnScope ["_law_script", "_law_d", "_law_turn", "_law_program_here", "_law_fuel_here", "_law_due", "_law_again", "_law_found"] ["_law_script"] (defScope s_law) := ⟨rfl, rfl, rfl, by decide +kernel, rfl, by decide +kernel, by decide +kernel⟩
end K3
end

section
set_option maxRecDepth 100000
set_option maxHeartbeats 1000000
namespace Bq
open PySem PySem.Spec PyProof.Rows L2

/-! ### functions by name -/
/-- the module's name x is a function that keeps the promise sp, at level k -/
def Fn (P : Program) (w : World) (K : PySem.W.Frag) (mg : Str → Option Value) (base : Heap) (CX : CXT) (k : Nat) (x : Str) (ps : List Str) (sp : Sp) : Prop :=
  ∃ f fd, FnOk P w K mg base CX k f fd ps sp ∧ Binds K fd ps [] ∧ mg x = some (.ref f) ∧ PySem.W.keepIn K (.ref f) = true
theorem Fn.mono {P : Program} {w : World} {K : PySem.W.Frag} {mg : Str → Option Value} {base : Heap} {CX : CXT} {j k : Nat} {x : Str} {ps : List Str} {sp : Sp} (F : Fn P w K mg base CX j x ps sp) (h : j ≤ k) : Fn P w K mg base CX k x ps sp := by
  obtain ⟨f, fd, a, b, c, d⟩ := F
  exact ⟨f, fd, a.mono h, b, c, d⟩
theorem rmm {j k : Nat} {A : Around} (hr : Room k A) (h : j ≤ k := by first | decide | omega) : Room j A := hr.mono h
def tFn (sp : Sp) (E : XK) (t : TA) : TE := fun σ H Q => t σ H fun vs H1 => sp vs H1 Q E
section
variable {X : Cx} {CX : CXT} {k : Nat} {x : Str} {ps : List Str} {sp : Sp} {E : XK} {e : Expr} {es : List Expr} {t : TA} {p pos : Pos}
theorem pe_fn (F : Fn X.prog X.w X.K X.mg X.base CX k x ps sp) (hr : Room k X.A) (hg : Gl X x) (hx : Passes CX X E) (ha : PA X (e :: es) t) (hdb : (x == ("__debug__" : Str)) = false := by decide)
    (he : starEach (e :: es) X.env = (false, eval e X.env) :: starEach es X.env := by rfl) (hpl : (backTo pos (starEach es X.env)).any (·.1) = false := by rfl) :
    PE X (.Call (.Name x p) (e :: es) [] pos) (tFn sp E t) := by
  obtain ⟨f, fd, G, b, m, kp⟩ := F
  have h := pe_call (p := p) (pos := pos) (x := x) G hr hg m kp b .nil hx ha hdb he hpl
  have e1 : tCall sp [] E t = tFn sp E t := by
    funext σ H Q
    unfold tCall tFn
    simp only [List.append_nil]
  rw [← e1]
  exact h
end

/-! ### heaps: what a call may change -/
def Up (S : List Addr) (H H' : Hp) : Prop := ∀ b o, H b = some o → b ∉ S → H' b = some o
structure Kt (K : PySem.W.Frag) (H H' : Hp) : Prop where
  t : ∀ a xs, SqT K H a xs → SqT K H' a xs
  f : ∀ a ob u, H a = some (.frz ob u) → H' a = some (.frz ob u)
structure Ch (K : PySem.W.Frag) (S : List Addr) (H H' : Hp) : Prop where
  up : Up S H H'
  kt : Kt K H H'
/-- a list that nobody writes -/
def FzL (K : PySem.W.Frag) (H : Hp) (a : Addr) (xs : List V) : Prop := (∃ o, H a = some (.frz o (.lst xs))) ∨ ∀ H', SqL K H' a xs
section
variable {K : PySem.W.Frag} {S S' : List Addr} {H H1 H2 : Hp} {a p : Addr} {o u : HO} {xs : List V}
theorem Kt.trans (c : Kt K H H1) (d : Kt K H1 H2) : Kt K H H2 := ⟨fun a xs h => d.t a xs (c.t a xs h), fun a ob u h => d.f a ob u (c.f a ob u h)⟩
theorem Ch.refl : Ch K S H H := ⟨fun _ _ h _ => h, fun _ _ h => h, fun _ _ _ h => h⟩
theorem Ch.trans (c : Ch K S H H1) (d : Ch K S H1 H2) : Ch K S H H2 := ⟨fun b o h n => d.up b o (c.up b o h n) n, c.kt.trans d.kt⟩
theorem Ch.mono (c : Ch K S H H1) (h : ∀ a ∈ S, a ∈ S') : Ch K S' H H1 := ⟨fun b o e n => c.up b o e fun z => n (h b z), c.kt⟩
theorem kt_of (h : ∀ b ys, H b = some (.tup ys) → H1 b = some (.tup ys)) (f : ∀ b ob u, H b = some (.frz ob u) → H1 b = some (.frz ob u)) : Kt K H H1 := ⟨fun b ys q => by
  rcases q with (q | ⟨ob, q⟩) | q
  · exact .inl (.inl (h b ys q))
  · exact .inl (.inr ⟨ob, f b ob _ q⟩)
  · exact .inr q, f⟩
theorem Ch.new (n : H p = none) : Ch K S H (upd H p o) := by
  have h : ∀ b u, H b = some u → upd H p o b = some u := fun b u e => by rw [upd_ne (ne_of_none e n)]; exact e
  exact ⟨fun b u e _ => h b u e, kt_of (fun b ys e => h b _ e) fun b ob u e => h b _ e⟩
def notT : HO → Bool
  | .tup _ => false
  | .frz _ _ => false
  | _ => true
theorem Ch.wr (h : H a = some u) (ht : notT u = true) (ha : a ∈ S) : Ch K S H (upd H a o) := by
  refine ⟨fun b v e n => ?_, kt_of (fun b ys e => ?_) fun b ob v e => ?_⟩
  · rw [upd_ne (fun z => n (by rw [z]; exact ha))]; exact e
  · rw [upd_ne (fun z => by rw [z, h] at e; cases e; cases ht)]; exact e
  · rw [upd_ne (fun z => by rw [z, h] at e; cases e; cases ht)]; exact e
theorem Ch.wrL (h : H a = some (.lst xs)) (ha : a ∈ S) : Ch K S H (upd H a o) := Ch.wr h rfl ha
/-- a new thing written again -/
theorem Ch.wrN (c : Ch K S H H1) (n : H a = none) (h : H1 a = some u) (ht : notT u = true) : Ch K S H (upd H1 a o) := by
  have w : Ch K [a] H1 (upd H1 a o) := Ch.wr h ht (by simp)
  refine ⟨fun b v e m => ?_, c.kt.trans w.kt⟩
  rw [upd_ne (ne_of_none e n)]; exact c.up b v e m
theorem Ch.hide (n : H p = none) (c : Ch K S' (upd H p o) H1) (h : ∀ a ∈ S', a ∈ S ∨ a = p) : Ch K S H H1 := by
  refine ⟨fun b v e m => ?_, (Ch.new (S := S) n).kt.trans c.kt⟩
  have hb := ne_of_none e n
  refine c.up b v (by rw [upd_ne hb]; exact e) fun z => ?_
  rcases h b z with q | q
  · exact m q
  · exact hb q
theorem Ch.sqL (c : Ch K S H H1) (h : SqL K H a xs) (n : a ∉ S) : SqL K H1 a xs := by
  rcases h with (h | ⟨ob, h⟩) | h
  · exact .inl (.inl (c.up _ _ h n))
  · exact .inl (.inr ⟨ob, c.up _ _ h n⟩)
  · exact .inr h
theorem Ch.sqT (c : Ch K S H H1) (h : SqT K H a xs) : SqT K H1 a xs := c.kt.t _ _ h
theorem Ch.free (c : Ch K S H H1) (n : H1 p = none) (hp : p ∉ S) : H p = none := by
  cases q : H p with
  | none => rfl
  | some v => rw [c.up p v q hp] at n; cases n
theorem FzL.kt (k : Kt K H H1) (h : FzL K H a xs) : FzL K H1 a xs := h.imp (fun ⟨o, e⟩ => ⟨o, k.f _ _ _ e⟩) id
theorem FzL.sq (h : FzL K H a xs) : SqL K H a xs := h.elim (fun ⟨o, e⟩ => .inl (.inr ⟨o, e⟩)) fun q => q H
theorem FzL.uw {d : Addr} {ys : List V} (h : FzL K H a xs) (e : H d = some (.lst ys)) : FzL K (upd H d o) a xs := h.kt (Ch.wrL (S := [d]) e (by simp)).kt
theorem FzL.nw {d : Addr} (h : FzL K H a xs) (e : H d = none) : FzL K (upd H d o) a xs := h.kt (Ch.new (S := []) e).kt
theorem FzL.of (hO : Only H) (h : SqL K H a xs) : FzL K H a xs := by
  rcases h with (h | ⟨ob, h⟩) | h
  · rcases hO a with n | ⟨o, ys, e⟩
    · rw [h] at n; cases n
    · rw [h] at e; cases e
  · exact .inl ⟨ob, h⟩
  · exact .inr fun _ => .inr h
end

/-! ### data in tuples -/
inductive T where
  | int (i : Int)
  | str (s : Str)
  | tup (ts : List T)
mutual
inductive Rep (K : PySem.W.Frag) (H : Hp) : V → T → Prop where
  | int (i : Int) : Rep K H (.int i) (.int i)
  | str (s : Str) : Rep K H (.str s) (.str s)
  | tup {a : Addr} {vs : List V} {ts : List T} (h : SqT K H a vs) (r : Reps K H vs ts) : Rep K H (.ref a) (.tup ts)
inductive Reps (K : PySem.W.Frag) (H : Hp) : List V → List T → Prop where
  | nil : Reps K H [] []
  | cons {v : V} {t : T} {vs : List V} {ts : List T} (h : Rep K H v t) (r : Reps K H vs ts) : Reps K H (v :: vs) (t :: ts)
end
section
variable {K : PySem.W.Frag} {H H1 : Hp}
mutual
theorem Rep.kt (k : Kt K H H1) : ∀ {v : V} {t : T}, Rep K H v t → Rep K H1 v t
  | _, _, .int i => .int i
  | _, _, .str s => .str s
  | _, _, .tup h r => .tup (k.t _ _ h) (Reps.kt k r)
theorem Reps.kt (k : Kt K H H1) : ∀ {vs : List V} {ts : List T}, Reps K H vs ts → Reps K H1 vs ts
  | _, _, .nil => .nil
  | _, _, .cons h r => .cons (Rep.kt k h) (Reps.kt k r)
end
theorem Reps.len : ∀ {vs : List V} {ts : List T}, Reps K H vs ts → vs.length = ts.length
  | _, _, .nil => rfl
  | _, _, .cons _ r => congrArg Nat.succ r.len
theorem Reps.get : ∀ {vs : List V} {ts : List T} {i : Nat} {v : V}, Reps K H vs ts → vs[i]? = some v → ∃ t, ts[i]? = some t ∧ Rep K H v t
  | _, _, _, _, .nil, e => by simp at e
  | _, _, 0, v, .cons h _, e => by simp at e; subst e; exact ⟨_, rfl, h⟩
  | _, _, i + 1, v, .cons _ r, e => by
    obtain ⟨t, h1, h2⟩ := Reps.get (i := i) (v := v) r (by simpa using e)
    exact ⟨t, by simpa using h1, h2⟩
theorem Reps.getT : ∀ {vs : List V} {ts : List T} {i : Nat} {t : T}, Reps K H vs ts → ts[i]? = some t → ∃ v, vs[i]? = some v ∧ Rep K H v t
  | _, _, _, _, .nil, e => by simp at e
  | _, _, 0, t, .cons h _, e => by simp at e; subst e; exact ⟨_, rfl, h⟩
  | _, _, i + 1, t, .cons _ r, e => by
    obtain ⟨v, h1, h2⟩ := Reps.getT (i := i) (t := t) r (by simpa using e)
    exact ⟨v, by simpa using h1, h2⟩
theorem Reps.append : ∀ {vs us : List V} {ts ss : List T}, Reps K H vs ts → Reps K H us ss → Reps K H (vs ++ us) (ts ++ ss)
  | _, _, _, _, .nil, q => q
  | _, _, _, _, .cons h r, q => .cons h (Reps.append r q)
theorem Reps.drop : ∀ {vs : List V} {ts : List T} (n : Nat), Reps K H vs ts → Reps K H (vs.drop n) (ts.drop n)
  | _, _, 0, r => r
  | _, _, _ + 1, .nil => .nil
  | _, _, n + 1, .cons _ r => Reps.drop n r
theorem Reps.take : ∀ {vs : List V} {ts : List T} (n : Nat), Reps K H vs ts → Reps K H (vs.take n) (ts.take n)
  | _, _, 0, _ => .nil
  | _, _, _ + 1, .nil => .nil
  | _, _, n + 1, .cons h r => .cons h (Reps.take n r)
theorem Rep.tupI {v : V} {ts : List T} (r : Rep K H v (.tup ts)) : ∃ a vs, v = .ref a ∧ SqT K H a vs ∧ Reps K H vs ts := by
  cases r with
  | tup h q => exact ⟨_, _, rfl, h, q⟩
theorem Rep.intI {v : V} {i : Int} (r : Rep K H v (.int i)) : v = .int i := by cases r; rfl
theorem Rep.strI {v : V} {i : Str} (r : Rep K H v (.str i)) : v = .str i := by cases r; rfl
theorem Reps.nilI {vs : List V} (r : Reps K H vs []) : vs = [] := by cases r; rfl
theorem Reps.consI {vs : List V} {t : T} {ts : List T} (r : Reps K H vs (t :: ts)) : ∃ v us, vs = v :: us ∧ Rep K H v t ∧ Reps K H us ts := by
  cases r with
  | cons h q => exact ⟨_, _, rfl, h, q⟩
end

/-! ### readings, step by step -/
section
variable {K : PySem.W.Frag} {σ : L2.St} {H : Hp} {D : Ends} {Q : VK} {QB : Bool → Hp → Prop} {QL : List V → Hp → Prop} {te ta tb : TE} {t1 t2 ts tu : TS} {c u : TT} {tl tr : TA} {x y v : V} {p : Addr} {xs : List V} {i j : Int} {n : Nat} {b : Bool}
theorem g_seq (h : t1 { D with nx := t2 D } σ H) : tSeq t1 t2 D σ H := h
theorem g_asg (h : te σ H fun x H1 => D.nx (σ.set n (some x)) H1) : tAsg te (gName n) D σ H := h
theorem g_asgG {g : TG} (h : te σ H fun x H1 => g x σ H1 D.nx) : tAsg te g D σ H := h
theorem g_name {R : L2.St → Hp → Prop} (h : R (σ.set n (some v)) H) : gName n v σ H R := h
theorem g_sub {t : TSet} {R : L2.St → Hp → Prop} (h : ta σ H fun o H1 => tb σ H1 fun i H2 => t o i v H2 fun H3 => R σ H3) : gSub ta tb t v σ H R := h
theorem g_drop (h : te σ H fun _ H1 => D.nx σ H1) : tDrop te D σ H := h
theorem g_ret (h : te σ H D.rt) : tRet te D σ H := h
theorem g_retN (h : D.rt .non H) : tRetN D σ H := h
theorem g_next (h : D.nx σ H) : tNext D σ H := h
theorem g_ifS (h : c σ H fun b H1 => if b = true then t1 D σ H1 else t2 D σ H1) : tIfS c t1 t2 D σ H := h
theorem g_var (e : σ[n]? = some (some v)) (h : Q v H) : tVar n σ H Q := ⟨v, e, h⟩
theorem g_c (h : Q v H) : tC v σ H Q := h
theorem g_op {r : R2} (h : ta σ H fun x H1 => tb σ H1 fun y H2 => r x y H2 Q) : tOp r ta tb σ H Q := h
theorem g_un {r : V → Hp → VK → Prop} (h : ta σ H fun x H1 => r x H1 Q) : tUn r ta σ H Q := h
theorem g_I0 {g : Int → Int → V} (h : Q (g i j) H) : rI0 g (.int i) (.int j) H Q := ⟨i, j, rfl, rfl, h⟩
theorem g_I {C : Int → Int → Prop} {g : Int → Int → V} (hc : C i j) (h : Q (g i j) H) : rI C g (.int i) (.int j) H Q := ⟨i, j, rfl, rfl, hc, h⟩
theorem g_U {g : Int → V} (h : Q (g i) H) : rU g (.int i) H Q := ⟨i, rfl, h⟩
theorem g_eq (hs : scal x y = true) (h : Q (.bl (decide (x = y))) H) : rEq x y H Q := ⟨hs, h⟩
theorem g_ne (hs : scal x y = true) (h : Q (.bl (!decide (x = y))) H) : rNe x y H Q := ⟨hs, h⟩
theorem g_test (h : te σ H fun x H' => ∃ k, x = .bl k ∧ QB k H') : tTest te σ H QB := h
theorem g_tB (h : te σ H fun x H' => ∃ k, x = .bl k ∧ QB k H') : tB te σ H QB := h
theorem g_bl (h : QB b H) : ∃ k, V.bl b = .bl k ∧ QB k H := ⟨b, rfl, h⟩
theorem g_and (h : c σ H fun b H1 => if b = true then u σ H1 QB else QB false H1) : tAnd c u σ H QB := h
theorem g_or (h : c σ H fun b H1 => if b = true then QB true H1 else u σ H1 QB) : tOr c u σ H QB := h
theorem g_andP {a b : Bool} (h1 : ∀ R : Bool → Hp → Prop, R a H → c σ H R) (h2 : ∀ R : Bool → Hp → Prop, R b H → u σ H R) (k : QB (a && b) H) : tAnd c u σ H QB := by
  refine h1 _ ?_
  cases a with
  | true => rw [if_pos rfl]; exact h2 _ k
  | false => rw [if_neg Bool.false_ne_true]; exact k
theorem g_orP {a b : Bool} (h1 : ∀ R : Bool → Hp → Prop, R a H → c σ H R) (h2 : ∀ R : Bool → Hp → Prop, R b H → u σ H R) (k : QB (a || b) H) : tOr c u σ H QB := by
  refine h1 _ ?_
  cases a with
  | true => rw [if_pos rfl]; exact k
  | false => rw [if_neg Bool.false_ne_true]; exact h2 _ k
theorem g_cut {Mid : L2.St → Hp → Prop} (h : t1 { D with nx := Mid } σ H) (k : ∀ σ' H', Mid σ' H' → t2 D σ' H') : Evl.tCut t1 t2 D σ H := ⟨Mid, h, k⟩
theorem g_not (h : c σ H fun b H1 => QB (!b) H1) : tNot c σ H QB := h
theorem g_andV (h : ta σ H fun x H1 => ∃ c, x = .bl c ∧ if c = true then tb σ H1 Q else Q (.bl false) H1) : tAndV ta tb σ H Q := h
theorem g_orV (h : ta σ H fun x H1 => ∃ c, x = .bl c ∧ if c = true then Q (.bl true) H1 else tb σ H1 Q) : tOrV ta tb σ H Q := h
theorem g_notV (h : ta σ H fun x H1 => ∃ c, x = .bl c ∧ Q (.bl (!c)) H1) : tNotV ta σ H Q := h
theorem g_if (h : c σ H fun b H1 => if b = true then ta σ H1 Q else tb σ H1 Q) : tIf c ta tb σ H Q := h
theorem g_nil (h : QL [] H) : tNil σ H QL := h
theorem g_cons (h : ta σ H fun x H1 => tr σ H1 fun xs H2 => QL (x :: xs) H2) : tCons ta tr σ H QL := h
theorem g_tup (h : tl σ H fun xs H1 => xs.length ≤ sizeLine ∧ ∀ p, H1 p = none → Q (.ref p) (upd H1 p (.tup xs))) : tTup tl σ H Q := h
theorem g_lst (h : tl σ H fun xs H1 => xs.length ≤ sizeLine ∧ ∀ p, H1 p = none → Q (.ref p) (upd H1 p (.lst xs))) : tLst tl σ H Q := h
theorem g_CB {r : List V → Hp → VK → Prop} (h : tl σ H fun vs H1 => r vs H1 Q) : tCB r tl σ H Q := h
theorem g_Fn {sp : Sp} {E : XK} (h : tl σ H fun vs H1 => sp vs H1 Q E) : tFn sp E tl σ H Q := h
theorem g_ixL (h : SqL K H p xs) (e : atI xs i = some v) (q : Q v H) : rIxL K (.ref p) (.int i) H Q := ⟨p, xs, i, v, rfl, rfl, h, e, q⟩
theorem g_ixT (h : SqT K H p xs) (e : atI xs i = some v) (q : Q v H) : rIxT K (.ref p) (.int i) H Q := ⟨p, xs, i, v, rfl, rfl, h, e, q⟩
theorem g_setL {R : Hp → Prop} (h : H p = some (.lst xs)) (e : ixN xs.length i = some n) (q : R (upd H p (.lst (xs.set n v)))) : rSetL (.ref p) (.int i) v H R := ⟨p, xs, i, n, rfl, rfl, h, e, q⟩
theorem g_app (h : H p = some (.lst xs)) (hz : xs.length < sizeLine) (q : Q .non (upd H p (.lst (xs ++ [v])))) : rAppend (.ref p) [v] H Q := ⟨p, xs, v, rfl, rfl, h, hz, q⟩
theorem g_dg (h : ta σ H fun x H1 => tb σ H1 fun y H2 => ∃ a v, x = .ref a ∧ DGet H2 a y (some v) ∧ Q v H2) : tDGet ta tb σ H Q := h
theorem iteB {A B : Prop} (h1 : b = true → A) (h2 : b = false → B) : if b = true then A else B := by
  cases b with
  | true => rw [if_pos rfl]; exact h1 rfl
  | false => rw [if_neg Bool.false_ne_true]; exact h2 rfl
end
end Bq
end

section
set_option maxRecDepth 100000
set_option maxHeartbeats 1000000
namespace Bq
open PySem PySem.Spec PyProof.Rows L2
theorem pe_bty {X : Cx} {x : Str} {pos : Pos} (n : String) (hg : Gl X x) (hm : X.mg x = none) (hv : bootBuiltins x = some (.type n)) (hn : x ≠ "__name__" := by decide) (hd : (x == ("__debug__" : Str)) = false := by decide) : PE X (.Name x pos) (tC (.ty n)) :=
  pe_bltn (v := .ty n) hg hm hv rfl hn hd
/-! ### a list against [] -/
def rEqNil (K : PySem.W.Frag) : R2 := fun x y H Q => ∃ p q xs, x = .ref p ∧ y = .ref q ∧ SqL K H p xs ∧ SqL K H q [] ∧ Q (.bl xs.isEmpty) H
def rNeNil (K : PySem.W.Frag) : R2 := fun x y H Q => ∃ p q xs, x = .ref p ∧ y = .ref q ∧ SqL K H p xs ∧ SqL K H q [] ∧ Q (.bl (!xs.isEmpty)) H
section
variable {X : Cx}
theorem op_eqNil (hu : X.A.units < cLine) : OpR X (compareOp .Eq) (rEqNil X.K) := by
  intro pins s σ H x y v u Q I rx ry h
  obtain ⟨p, q, xs, rfl, rfl, hp, hq, k⟩ := h
  cases rx
  cases ry
  obtain ⟨its, rv, pl, _⟩ := I.list hp
  obtain ⟨its2, rv2, pl2, _⟩ := I.list hq
  cases rv2
  cases rv with
  | nil => exact PySem.SeqAt.eq_listAt (e := fun _ => true) pl.isList pl2.isList rfl hu (fun j h1 => by simp at h1) ⟨.bl true, H, I, rfl, k⟩
  | cons r t => exact PySem.SeqAt.eq_list_lengthsAt pl.isList pl2.isList (by simp) hu ⟨.bl false, H, I, rfl, k⟩
theorem op_neNil (hu : X.A.units < cLine) : OpR X (compareOp .NotEq) (rNeNil X.K) := by
  intro pins s σ H x y v u Q I rx ry h
  obtain ⟨p, q, xs, rfl, rfl, hp, hq, k⟩ := h
  cases rx
  cases ry
  obtain ⟨its, rv, pl, _⟩ := I.list hp
  obtain ⟨its2, rv2, pl2, _⟩ := I.list hq
  cases rv2
  cases rv with
  | nil => exact PySem.SeqAt.RcNeAt.lists (e := fun _ => true) pl.isList pl2.isList rfl hu (fun j h1 => by simp at h1) X.prog X.w _ _ ⟨.bl false, H, I, rfl, k⟩
  | cons r t => exact PySem.SeqAt.RcNeAt.lists_lengths pl.isList pl2.isList (by simp) hu X.prog X.w _ _ ⟨.bl true, H, I, rfl, k⟩
end
section
variable {K : PySem.W.Frag} {H : Hp} {Q : VK} {p q : Addr} {xs : List V}
theorem g_eqNil (h : SqL K H p xs) (h2 : SqL K H q []) (k : Q (.bl xs.isEmpty) H) : rEqNil K (.ref p) (.ref q) H Q := ⟨p, q, xs, rfl, rfl, h, h2, k⟩
theorem g_neNil (h : SqL K H p xs) (h2 : SqL K H q []) (k : Q (.bl (!xs.isEmpty)) H) : rNeNil K (.ref p) (.ref q) H Q := ⟨p, q, xs, rfl, rfl, h, h2, k⟩
end

/-! ### a word between a test (an expression) and what follows -/
def tMid (t : TT) : TT := fun σ H Q => ∃ R : Bool → Hp → Prop, t σ H R ∧ ∀ b H', R b H' → Q b H'
def tMidE (t : TE) : TE := fun σ H Q => ∃ R : VK, t σ H R ∧ ∀ b H', R b H' → Q b H'
theorem pt_mid {X : Cx} {e : Expr} {t : TT} (h : PT X e t) : PT X e (tMid t) := by
  refine ⟨fun pins s σ H Q I hw => ?_⟩
  obtain ⟨R, h1, h2⟩ := hw
  exact thn (h.run pins s σ H R I h1) fun b s' ⟨H', I', q⟩ => ⟨H', I', h2 b H' q⟩
theorem pe_mid {X : Cx} {e : Expr} {t : TE} (h : PE X e t) : PE X e (tMidE t) := by
  refine ⟨fun pins s σ H Q I hw => ?_⟩
  obtain ⟨R, h1, h2⟩ := hw
  exact thn (h.run pins s σ H R I h1) fun b s' ⟨v, H', I', r, q⟩ => ⟨v, H', I', r, h2 v H' q⟩
theorem g_mid {t : TT} {σ : L2.St} {H : Hp} {Q : Bool → Hp → Prop} (R : Bool → Hp → Prop) (h : t σ H R) (k : ∀ b H', R b H' → Q b H') : tMid t σ H Q := ⟨R, h, k⟩
theorem g_midE {t : TE} {σ : L2.St} {H : Hp} {Q : VK} (R : VK) (h : t σ H R) (k : ∀ b H', R b H' → Q b H') : tMidE t σ H Q := ⟨R, h, k⟩

/-! ### comprehensions without a test, the target a name -/
theorem wipe1 {σ : L2.St} {k : Nat} {x : Option V} : wipe ((wipe σ [k]).set k x) [k] = wipe σ [k] := by
  show ((σ.set k none).set k x).set k none = σ.set k none
  rw [List.set_set, List.set_set]
theorem g_lc {wi : TI} {g : TG} {tt : TT} {te : TE} {vs : List Nat} {σ : L2.St} {H : Hp} {Q : VK} (h : wi σ H fun J H1 => ∀ D, H1 D = none → ∃ W : Nat → Nat → Hp → Prop, (∃ m, W 0 m (upd H1 D (.lst []))) ∧ ∀ i m H, W i m H →
  (J.stop i H ∧ Q (.ref D) H) ∨ (J.go i H ∧ ∃ Nx : Hp → Prop, (∀ H', Nx H' → ∃ m', m' < m ∧ W (i + 1) m' H') ∧ ∀ x H', J.yld i H x H' → g x (wipe σ vs) H' fun σ2 H2 => wipe σ2 vs = wipe σ vs ∧ tt σ2 H2 fun b H3 =>
    if b = true then te σ2 H3 fun y H4 => ∃ acc, H4 D = some (.lst acc) ∧ acc.length < sizeLine ∧ Nx (upd H4 D (.lst (acc ++ [y]))) else Nx H3)) : tLc wi g tt te vs σ H Q := h
theorem g_rng1 {ta : TA} {σ : L2.St} {H : Hp} {R : It → Hp → Prop} (h : ta σ H fun vs H1 => ∃ j : Int, vs = [.int j] ∧ -(2 ^ 62) ≤ j ∧ j < 2 ^ 62 ∧ R (Itr 0 j.toNat) H1) : iRng1 ta σ H R := h
theorem g_ilist {K : PySem.W.Frag} {tl : TE} {σ : L2.St} {H : Hp} {R : It → Hp → Prop} (h : tl σ H fun x H1 => ∃ a, x = .ref a ∧ (∃ xs, SqL K H1 a xs) ∧ R (Itl K a) H1) : iList K tl σ H R := h
theorem g_itup {K : PySem.W.Frag} {tl : TE} {σ : L2.St} {H : Hp} {R : It → Hp → Prop} (h : tl σ H fun x H1 => ∃ a, x = .ref a ∧ (∃ xs, SqT K H1 a xs) ∧ R (Itt K a) H1) : iTup K tl σ H R := h
theorem lcR1 {n k : Nat} {te : TE} {σ : L2.St} {H1 : Hp} {D : Addr} {Qd : Hp → Prop} (Pv : Nat → Hp → Prop) (h0 : Pv 0 (upd H1 D (.lst [])))
    (hs : ∀ (i : Nat) H, i < n → Pv i H → te ((wipe σ [k]).set k (some (.int (i : Nat)))) H fun y H4 => ∃ acc, H4 D = some (.lst acc) ∧ acc.length < sizeLine ∧ Pv (i + 1) (upd H4 D (.lst (acc ++ [y])))) (hd : ∀ H, Pv n H → Qd H) :
    ∃ W : Nat → Nat → Hp → Prop, (∃ m, W 0 m (upd H1 D (.lst []))) ∧ ∀ i m H, W i m H →
      ((Itr 0 n).stop i H ∧ Qd H) ∨ ((Itr 0 n).go i H ∧ ∃ Nx : Hp → Prop, (∀ H', Nx H' → ∃ m', m' < m ∧ W (i + 1) m' H') ∧ ∀ x H', (Itr 0 n).yld i H x H' → gName k x (wipe σ [k]) H' fun σ2 H2 => wipe σ2 [k] = wipe σ [k] ∧ tYes σ2 H2 fun b H3 =>
        if b = true then te σ2 H3 fun y H4 => ∃ acc, H4 D = some (.lst acc) ∧ acc.length < sizeLine ∧ Nx (upd H4 D (.lst (acc ++ [y]))) else Nx H3) :=
  lc_range (lo := 0) (n := n) (g := gName k) (tt := tYes) (vs := [k]) Pv h0 (fun i H hi p => by
    refine ⟨wipe1, ?_⟩
    simp only [tYes, Int.zero_add, ↓reduceIte]
    exact hs i H hi p) hd
theorem lcT1 {K : PySem.W.Frag} {a : Addr} {xs : List V} {k : Nat} {te : TE} {σ : L2.St} {H1 : Hp} {D : Addr} {Qd : Hp → Prop} (Pv : Nat → Hp → Prop) (h0 : Pv 0 (upd H1 D (.lst []))) (hl : ∀ i H, i ≤ xs.length → Pv i H → SqT K H a xs)
    (hs : ∀ (i : Nat) x H, xs[i]? = some x → Pv i H → te ((wipe σ [k]).set k (some x)) H fun y H4 => ∃ acc, H4 D = some (.lst acc) ∧ acc.length < sizeLine ∧ Pv (i + 1) (upd H4 D (.lst (acc ++ [y])))) (hd : ∀ H, Pv xs.length H → Qd H) :
    ∃ W : Nat → Nat → Hp → Prop, (∃ m, W 0 m (upd H1 D (.lst []))) ∧ ∀ i m H, W i m H →
      ((Itt K a).stop i H ∧ Qd H) ∨ ((Itt K a).go i H ∧ ∃ Nx : Hp → Prop, (∀ H', Nx H' → ∃ m', m' < m ∧ W (i + 1) m' H') ∧ ∀ x H', (Itt K a).yld i H x H' → gName k x (wipe σ [k]) H' fun σ2 H2 => wipe σ2 [k] = wipe σ [k] ∧ tYes σ2 H2 fun b H3 =>
        if b = true then te σ2 H3 fun y H4 => ∃ acc, H4 D = some (.lst acc) ∧ acc.length < sizeLine ∧ Nx (upd H4 D (.lst (acc ++ [y]))) else Nx H3) :=
  lc_tup (xs := xs) (g := gName k) (tt := tYes) (vs := [k]) Pv h0 hl (fun i x H hi p => by
    refine ⟨wipe1, ?_⟩
    simp only [tYes, ↓reduceIte]
    exact hs i x H hi p) hd
theorem lcL1 {K : PySem.W.Frag} {a : Addr} {xs : List V} {k : Nat} {te : TE} {σ : L2.St} {H1 : Hp} {D : Addr} {Qd : Hp → Prop} (Pv : Nat → Hp → Prop) (h0 : Pv 0 (upd H1 D (.lst []))) (hl : ∀ i H, i ≤ xs.length → Pv i H → SqL K H a xs)
    (hs : ∀ (i : Nat) x H, xs[i]? = some x → Pv i H → te ((wipe σ [k]).set k (some x)) H fun y H4 => ∃ acc, H4 D = some (.lst acc) ∧ acc.length < sizeLine ∧ Pv (i + 1) (upd H4 D (.lst (acc ++ [y])))) (hd : ∀ H, Pv xs.length H → Qd H) :
    ∃ W : Nat → Nat → Hp → Prop, (∃ m, W 0 m (upd H1 D (.lst []))) ∧ ∀ i m H, W i m H →
      ((Itl K a).stop i H ∧ Qd H) ∨ ((Itl K a).go i H ∧ ∃ Nx : Hp → Prop, (∀ H', Nx H' → ∃ m', m' < m ∧ W (i + 1) m' H') ∧ ∀ x H', (Itl K a).yld i H x H' → gName k x (wipe σ [k]) H' fun σ2 H2 => wipe σ2 [k] = wipe σ [k] ∧ tYes σ2 H2 fun b H3 =>
        if b = true then te σ2 H3 fun y H4 => ∃ acc, H4 D = some (.lst acc) ∧ acc.length < sizeLine ∧ Nx (upd H4 D (.lst (acc ++ [y]))) else Nx H3) :=
  lc_list (xs := xs) (g := gName k) (tt := tYes) (vs := [k]) Pv h0 hl (fun i x H hi p => by
    refine ⟨wipe1, ?_⟩
    simp only [tYes, ↓reduceIte]
    exact hs i x H hi p) hd
/-! ### for -/
theorem g_for {wi : TI} {g : TG} {tb : TS} {D : Ends} {σ : L2.St} {H : Hp} (h : wi σ H fun J H1 => ∃ W : Nat → Nat → L2.St → Hp → Prop, (∃ m, W 0 m σ H1) ∧ ∀ i m σ H, W i m σ H →
  (J.stop i H ∧ D.nx σ H) ∨ (J.go i H ∧ ∃ N : L2.St → Hp → Prop, (∀ σ' H', N σ' H' → ∃ m', m' < m ∧ W (i + 1) m' σ' H') ∧ ∀ x H', J.yld i H x H' → g x σ H' fun σ2 H2 => tb { D with nx := N, ct := N, bk := D.nx } σ2 H2)) : tFor wi g tb D σ H := h
theorem for_rng {n k : Nat} {tb : TS} {D : Ends} {σ : L2.St} {H : Hp} (Pv : Nat → L2.St → Hp → Prop) (h0 : Pv 0 σ H)
    (hs : ∀ (i : Nat) σ H, i < n → Pv i σ H → tb { D with nx := Pv (i + 1), ct := Pv (i + 1), bk := D.nx } (σ.set k (some (.int (i : Nat)))) H) (hd : ∀ σ H, Pv n σ H → D.nx σ H) :
    ∃ W : Nat → Nat → L2.St → Hp → Prop, (∃ m, W 0 m σ H) ∧ ∀ i m σ H, W i m σ H →
      ((Itr 0 n).stop i H ∧ D.nx σ H) ∨ ((Itr 0 n).go i H ∧ ∃ N : L2.St → Hp → Prop, (∀ σ' H', N σ' H' → ∃ m', m' < m ∧ W (i + 1) m' σ' H') ∧ ∀ x H', (Itr 0 n).yld i H x H' → gName k x σ H' fun σ2 H2 => tb { D with nx := N, ct := N, bk := D.nx } σ2 H2) :=
  for_range (lo := 0) (n := n) (g := gName k) Pv h0 (fun i σ H hi p => by
    have h := hs i σ H hi p
    rw [← Int.zero_add ((i : Nat) : Int)] at h
    exact h) hd
/-! ### the language: parts and deeds -/
inductive Op where
  | add | take | times | over | rest | less | same
  deriving DecidableEq
def Op.str : Op → Str
  | .add => "add" | .take => "take" | .times => "times" | .over => "over" | .rest => "rest" | .less => "less" | .same => "same"
inductive Pt where
  | num (n : Int)
  | name (i : Nat)
  | bin (op : Op) (a b : Pt)
  | nt (a : Pt)
  | get (a : Pt)
  | call (f : Nat) (ps : List Pt)
inductive Dd where
  | set (i : Nat) (p : Pt)
  | put (c p : Pt)
  | say (p : Pt)
  | ite (p : Pt) (a b : List Dd)
  | whl (p : Pt) (b : List Dd)
  | ret (p : Pt)
  | dop (p : Pt)
mutual
def encP : Pt → T
  | .num n => .tup [.str "num", .int n]
  | .name i => .tup [.str "name", .int i]
  | .bin op a b => .tup [.str op.str, encP a, encP b]
  | .nt a => .tup [.str "not", encP a]
  | .get a => .tup [.str "get", encP a]
  | .call f ps => .tup [.str "call", .int f, .tup (encPs ps)]
def encPs : List Pt → List T
  | [] => []
  | p :: r => encP p :: encPs r
end
mutual
def encDd : Dd → T
  | .set i p => .tup [.str "set", .int i, encP p]
  | .put c p => .tup [.str "put", encP c, encP p]
  | .say p => .tup [.str "say", encP p]
  | .ite p a b => .tup [.str "if", encP p, .tup (encB a), .tup (encB b)]
  | .whl p b => .tup [.str "while", encP p, .tup (encB b)]
  | .ret p => .tup [.str "return", encP p]
  | .dop p => .tup [.str "do", encP p]
def encB : List Dd → List T
  | [] => []
  | d :: r => encDd d :: encB r
end
/-- a fun: how many worths it is handed, how many names it has, its body -/
structure Fu where
  ps : Nat
  nm : Nat
  body : List Dd
def encF (f : Fu) : T := .tup [.int f.ps, .int f.nm, .tup (encB f.body)]
mutual
/-- how many parts -/
def szP : Pt → Nat
  | .num _ => 1
  | .name _ => 1
  | .bin _ a b => 1 + szP a + szP b
  | .nt a => 1 + szP a
  | .get a => 1 + szP a
  | .call _ ps => 1 + szPs ps
def szPs : List Pt → Nat
  | [] => 0
  | p :: r => szP p + szPs r
end
mutual
/-- how many deeds and parts -/
def szD : Dd → Nat
  | .set _ p => 1 + szP p
  | .put c p => 1 + szP c + szP p
  | .say p => 1 + szP p
  | .ite p a b => 1 + szP p + szB a + szB b
  | .whl p b => 1 + szP p + szB b
  | .ret p => 1 + szP p
  | .dop p => 1 + szP p
def szB : List Dd → Nat
  | [] => 0
  | d :: r => szD d + szB r
end
mutual
/-- a part that can be: nm names, funs of so many params -/
def wfP (nm : Nat) (ps : List Nat) : Pt → Prop
  | .num n => -1000000 ≤ n ∧ n ≤ 1000000
  | .name i => i < nm
  | .bin _ a b => wfP nm ps a ∧ wfP nm ps b
  | .nt a => wfP nm ps a
  | .get a => wfP nm ps a
  | .call f qs => ps[f]? = some qs.length ∧ wfPs nm ps qs
def wfPs (nm : Nat) (ps : List Nat) : List Pt → Prop
  | [] => True
  | p :: r => wfP nm ps p ∧ wfPs nm ps r
end
mutual
/-- a deed that can be: at most dp deeds around what is within -/
def wfD (nm : Nat) (ps : List Nat) : Nat → Dd → Prop
  | _, .set i p => i < nm ∧ wfP nm ps p ∧ szP p ≤ 40
  | _, .put c p => wfP nm ps c ∧ wfP nm ps p ∧ szP c + szP p ≤ 40
  | _, .say p => wfP nm ps p ∧ szP p ≤ 40
  | dp, .ite p a b => wfP nm ps p ∧ szP p ≤ 40 ∧ wfBs nm ps dp a ∧ wfBs nm ps dp b
  | dp, .whl p b => wfP nm ps p ∧ szP p ≤ 40 ∧ wfBs nm ps dp b
  | _, .ret p => wfP nm ps p ∧ szP p ≤ 40
  | _, .dop p => wfP nm ps p ∧ szP p ≤ 40
/-- a body within a deed: empty, or one level less left -/
def wfBs (nm : Nat) (ps : List Nat) : Nat → List Dd → Prop
  | _, [] => True
  | 0, _ :: _ => False
  | dp + 1, d :: r => wfD nm ps dp d ∧ wfBs nm ps (dp + 1) r
end
mutual
theorem wfP_mono {n m : Nat} (h : n ≤ m) {ps : List Nat} : ∀ {p : Pt}, wfP n ps p → wfP m ps p
  | .num _, q => q
  | .name i, q => Nat.lt_of_lt_of_le (show i < n from q) h
  | .bin _ a b, q => ⟨wfP_mono h q.1, wfP_mono h q.2⟩
  | .nt a, q => wfP_mono (p := a) h q
  | .get a, q => wfP_mono (p := a) h q
  | .call f qs, q => ⟨q.1, wfPs_mono h q.2⟩
theorem wfPs_mono {n m : Nat} (h : n ≤ m) {ps : List Nat} : ∀ {qs : List Pt}, wfPs n ps qs → wfPs m ps qs
  | [], q => q
  | p :: r, q => ⟨wfP_mono h q.1, wfPs_mono h q.2⟩
end
mutual
/-- how many deeds and parts a thing is told to hold: tuples that begin with a text -/
def thT : T → Nat
  | .int _ => 0
  | .str _ => 0
  | .tup ts => ownT ts + thTs ts
def thTs : List T → Nat
  | [] => 0
  | t :: r => thT t + thTs r
def ownT : List T → Nat
  | .str _ :: _ => 1
  | _ => 0
end
theorem ownT_str {s : Str} {r : List T} : ownT (.str s :: r) = 1 := rfl
mutual
/-- how deep a thing is -/
def dpT : T → Nat
  | .int _ => 0
  | .str _ => 0
  | .tup ts => 1 + dpTs ts
def dpTs : List T → Nat
  | [] => 0
  | t :: r => max (dpT t) (dpTs r)
end
mutual
def dpP : Pt → Nat
  | .num _ => 1
  | .name _ => 1
  | .bin _ a b => 1 + max (dpP a) (dpP b)
  | .nt a => 1 + dpP a
  | .get a => 1 + dpP a
  | .call _ ps => 1 + dpPs ps
def dpPs : List Pt → Nat
  | [] => 0
  | p :: r => max (dpP p) (dpPs r)
end
mutual
theorem dpP_sz : ∀ p : Pt, dpP p ≤ szP p
  | .num _ => Nat.le_refl 1
  | .name _ => Nat.le_refl 1
  | .bin _ a b => by have := dpP_sz a; have := dpP_sz b; simp only [dpP, szP]; omega
  | .nt a => by have := dpP_sz a; simp only [dpP, szP]; omega
  | .get a => by have := dpP_sz a; simp only [dpP, szP]; omega
  | .call _ ps => by have := dpPs_sz ps; simp only [dpP, szP]; omega
theorem dpPs_sz : ∀ ps : List Pt, dpPs ps ≤ szPs ps
  | [] => Nat.le_refl 0
  | p :: r => by have := dpP_sz p; have := dpPs_sz r; simp only [dpPs, szPs]; omega
end
mutual
theorem dpT_P : ∀ p : Pt, dpT (encP p) ≤ 2 * dpP p
  | .num _ => by simp [encP, dpT, dpTs, dpP]
  | .name _ => by simp [encP, dpT, dpTs, dpP]
  | .bin _ a b => by have := dpT_P a; have := dpT_P b; simp only [encP, dpT, dpTs, dpP]; omega
  | .nt a => by have := dpT_P a; simp only [encP, dpT, dpTs, dpP]; omega
  | .get a => by have := dpT_P a; simp only [encP, dpT, dpTs, dpP]; omega
  | .call _ ps => by have := dpT_Ps ps; simp only [encP, dpT, dpTs, dpP]; omega
theorem dpT_Ps : ∀ ps : List Pt, dpTs (encPs ps) ≤ 2 * dpPs ps
  | [] => Nat.le_refl 0
  | p :: r => by have := dpT_P p; have := dpT_Ps r; simp only [encPs, dpTs, dpPs]; omega
end
theorem ownT_Ps : ∀ ps : List Pt, ownT (encPs ps) = 0
  | [] => rfl
  | .num _ :: r => rfl
  | .name _ :: r => rfl
  | .bin _ _ _ :: r => rfl
  | .nt _ :: r => rfl
  | .get _ :: r => rfl
  | .call _ _ :: r => rfl
mutual
theorem thT_P : ∀ p : Pt, thT (encP p) = szP p
  | .num _ => rfl
  | .name _ => rfl
  | .bin _ a b => by have := thT_P a; have := thT_P b; simp only [encP, thT, thTs, szP, ownT_str]; omega
  | .nt a => by have := thT_P a; simp only [encP, thT, thTs, szP, ownT_str]; omega
  | .get a => by have := thT_P a; simp only [encP, thT, thTs, szP, ownT_str]; omega
  | .call _ ps => by have := thT_Ps ps; have := ownT_Ps ps; simp only [encP, thT, thTs, szP, ownT_str]; omega
theorem thT_Ps : ∀ ps : List Pt, thTs (encPs ps) = szPs ps
  | [] => rfl
  | p :: r => by have := thT_P p; have := thT_Ps r; simp only [encPs, thTs, szPs]; omega
end
theorem ownT_B : ∀ b : List Dd, ownT (encB b) = 0
  | [] => rfl
  | .set _ _ :: r => rfl
  | .put _ _ :: r => rfl
  | .say _ :: r => rfl
  | .ite _ _ _ :: r => rfl
  | .whl _ _ :: r => rfl
  | .ret _ :: r => rfl
  | .dop _ :: r => rfl
mutual
theorem thT_D : ∀ d : Dd, thT (encDd d) = szD d
  | .set _ p => by have := thT_P p; simp only [encDd, thT, thTs, szD, ownT_str]; omega
  | .put c p => by have := thT_P c; have := thT_P p; simp only [encDd, thT, thTs, szD, ownT_str]; omega
  | .say p => by have := thT_P p; simp only [encDd, thT, thTs, szD, ownT_str]; omega
  | .ite p a b => by have := thT_P p; have := thT_B a; have := thT_B b; have := ownT_B a; have := ownT_B b; simp only [encDd, thT, thTs, szD, ownT_str]; omega
  | .whl p b => by have := thT_P p; have := thT_B b; have := ownT_B b; simp only [encDd, thT, thTs, szD, ownT_str]; omega
  | .ret p => by have := thT_P p; simp only [encDd, thT, thTs, szD, ownT_str]; omega
  | .dop p => by have := thT_P p; simp only [encDd, thT, thTs, szD, ownT_str]; omega
theorem thT_B : ∀ b : List Dd, thTs (encB b) = szB b
  | [] => rfl
  | d :: r => by have := thT_D d; have := thT_B r; simp only [encB, thTs, szB]; omega
end
mutual
/-- how deep deeds are, of parts of at most 20 -/
theorem dpT_D {nm : Nat} {ps : List Nat} : ∀ {n : Nat} {d : Dd}, wfD nm ps n d → dpT (encDd d) ≤ 2 * n + 81
  | n, .set _ p, h => by have := dpT_P p; have := dpP_sz p; have := h.2.2; simp only [encDd, dpT, dpTs]; omega
  | n, .put c p, h => by have := dpT_P p; have := dpP_sz p; have := dpT_P c; have := dpP_sz c; have := h.2.2; simp only [encDd, dpT, dpTs]; omega
  | n, .say p, h => by have := dpT_P p; have := dpP_sz p; have := h.2; simp only [encDd, dpT, dpTs]; omega
  | n, .ite p a b, h => by have := dpT_P p; have := dpP_sz p; have := h.2.1; have := dpT_B h.2.2.1; have := dpT_B h.2.2.2; simp only [encDd, dpT, dpTs]; omega
  | n, .whl p b, h => by have := dpT_P p; have := dpP_sz p; have := h.2.1; have := dpT_B h.2.2; simp only [encDd, dpT, dpTs]; omega
  | n, .ret p, h => by have := dpT_P p; have := dpP_sz p; have := h.2; simp only [encDd, dpT, dpTs]; omega
  | n, .dop p, h => by have := dpT_P p; have := dpP_sz p; have := h.2; simp only [encDd, dpT, dpTs]; omega
theorem dpT_B {nm : Nat} {ps : List Nat} : ∀ {n : Nat} {b : List Dd}, wfBs nm ps n b → dpTs (encB b) ≤ 2 * n + 79
  | _, [], _ => by simp [encB, dpTs]
  | 0, _ :: _, h => h.elim
  | n + 1, d :: r, h => by have := dpT_D h.1; have := dpT_B h.2; simp only [encB, dpTs]; omega
end
/-! ### tuples made, added -/
section
variable {K : PySem.W.Frag} {H : Hp} {Q : VK} {vs : List V} {ts us : List T} {v1 v2 : V}
theorem catT (r1 : Rep K H v1 (.tup ts)) (r2 : Rep K H v2 (.tup us)) (hl : ts.length + us.length ≤ 1000) (k : ∀ v H', Ch K [] H H' → Rep K H' v (.tup (ts ++ us)) → Q v H') : rCatA K v1 v2 H Q := by
  obtain ⟨a, xs, rfl, hx, rx⟩ := r1.tupI
  obtain ⟨b, ys, rfl, hy, ry⟩ := r2.tupI
  refine ⟨a, b, xs, ys, rfl, rfl, hx, hy, ?_, fun e => ?_, fun e1 e2 => ?_, fun e1 e2 p np => ?_⟩
  · rw [rx.len, ry.len]
    exact Nat.le_trans hl (by decide)
  · refine k _ H Ch.refl ?_
    subst e
    cases rx
    exact r2
  · refine k _ H Ch.refl ?_
    subst e2
    cases ry
    rw [List.append_nil]
    exact r1
  · exact k _ _ (Ch.new np) (.tup (SqT.of upd_same) ((rx.append ry).kt (Ch.new (S := []) np).kt))
/-- t + u, by what they are -/
def rCatR (K : PySem.W.Frag) : R2 := fun x y H Q => ∃ ts us, Rep K H x (.tup ts) ∧ Rep K H y (.tup us) ∧ ts.length + us.length ≤ 1000 ∧ ∀ v H', Ch K [] H H' → Rep K H' v (.tup (ts ++ us)) → Q v H'
theorem op_catR {X : Cx} : OpR X (binaryOp .Add) (rCatR X.K) := by
  intro pins s σ H x y v u Q I rx ry h
  obtain ⟨ts, us, r1, r2, hl, k⟩ := h
  exact op_catA pins s σ H x y v u Q I rx ry (catT r1 r2 hl k)
/-- a tuple, a list displayed: the heap behind it only by what it holds -/
def tTupC (K : PySem.W.Frag) (t : TA) : TE := fun σ H Q => t σ H fun xs H1 => xs.length ≤ sizeLine ∧ ∀ p H2, H1 p = none → H2 p = some (.tup xs) → Ch K [] H1 H2 → Q (.ref p) H2
def tLstC (K : PySem.W.Frag) (t : TA) : TE := fun σ H Q => t σ H fun xs H1 => xs.length ≤ sizeLine ∧ ∀ p H2, H1 p = none → H2 p = some (.lst xs) → Ch K [] H1 H2 → Q (.ref p) H2
theorem pe_tupC {X : Cx} {es : List Expr} {t : TA} {pos : Pos} {x1} (h : PA X es t) : PE X (.Tuple es x1 pos) (tTupC X.K t) := by
  refine ⟨fun pins s σ H Q I hq => ?_⟩
  refine wpAny_Tuple_spliced (thn (h.run pos pins s σ H _ I hq) fun us s1 ⟨xs, H1, I1, r, z, q⟩ => ⟨by rw [← r.length]; exact z, ?_⟩)
  have hf : H1 s1.heap.objs.size = none := I1.hok.fresh (Nat.le_refl _)
  refine ⟨.ref s1.heap.objs.size, upd H1 s1.heap.objs.size (.tup xs), I1.laid (t' := s1.toks) (fun b u e => Heap.get?_push_of_some _ e) (Nat.le_refl _) ?_, rfl, q _ _ hf upd_same (Ch.new hf)⟩
  exact ⟨z, us, r, ⟨_, Heap.get?_push_size _ rfl, rfl, _, rfl⟩⟩
theorem pe_lstC {X : Cx} {es : List Expr} {t : TA} {pos : Pos} (h : PA X es t) : PE X (.List es pos) (tLstC X.K t) := by
  refine ⟨fun pins s σ H Q I hq => ?_⟩
  refine wpAny_List_spliced (thn (h.run pos pins s σ H _ I hq) fun us s1 ⟨xs, H1, I1, r, z, q⟩ => ⟨by rw [← r.length]; exact z, ?_⟩)
  have hf : H1 s1.heap.objs.size = none := I1.hok.fresh (Nat.le_refl _)
  refine ⟨.ref s1.heap.objs.size, upd H1 s1.heap.objs.size (.lst xs), I1.laid (t' := s1.toks) (fun b u e => Heap.get?_push_of_some _ e) (Nat.le_refl _) ?_, rfl, q _ _ hf upd_same (Ch.new hf)⟩
  exact ⟨z, us, 0, r, Heap.get?_push_size _ rfl⟩
theorem g_tupC {tl : TA} {σ : L2.St} (h : tl σ H fun xs H1 => xs.length ≤ sizeLine ∧ ∀ p H2, H1 p = none → H2 p = some (.tup xs) → Ch K [] H1 H2 → Q (.ref p) H2) : tTupC K tl σ H Q := h
theorem g_lstC {tl : TA} {σ : L2.St} (h : tl σ H fun xs H1 => xs.length ≤ sizeLine ∧ ∀ p H2, H1 p = none → H2 p = some (.lst xs) → Ch K [] H1 H2 → Q (.ref p) H2) : tLstC K tl σ H Q := h
theorem g_BM {T : String} {r : V → List V → Hp → VK → Prop} {to : TE} {t : TA} {σ : L2.St} (h : to σ H fun x H1 => tyV K T x H1 ∧ t σ H1 fun xs H2 => r x xs H2 Q) : tBM K T r to t σ H Q := h
theorem g_BM0 {T : String} {r : V → List V → Hp → VK → Prop} {to : TE} {σ : L2.St} (h : to σ H fun x H1 => tyV K T x H1 ∧ r x [] H1 Q) : tBM0 K T r to σ H Q := h
theorem g_tyL {R : Prop} {l : Addr} {xs : List V} (h : SqL K H l xs) (k : R) : tyV K "list" (.ref l) H ∧ R := ⟨.inl ⟨rfl, _, h⟩, k⟩
/-- t[lo:hi] -/
def cutT (ts : List T) (lo hi : Option Int) : List T := (ts.drop (HT.sIx ts.length 0 lo)).take (HT.sIx ts.length ts.length hi - HT.sIx ts.length 0 lo)
def rSlR (K : PySem.W.Frag) : V → Option Int → Option Int → Hp → VK → Prop := fun x lo hi H Q => ∃ ts, Rep K H x (.tup ts) ∧ ∀ v H', Ch K [] H H' → Rep K H' v (.tup (cutT ts lo hi)) → Q v H'
theorem sl_tupR {X : Cx} : SlR X (rSlR X.K) := by
  intro pins s σ H x v vl vu lo hi sl Q I rx hs pl pu h
  obtain ⟨ts, r, k⟩ := h
  obtain ⟨a, xs, rfl, hx, rs⟩ := r.tupI
  have hl := rs.len
  refine sl_tupA pins s σ H _ v vl vu lo hi sl Q I rx hs pl pu ⟨a, xs, rfl, hx, fun hw => k _ H Ch.refl ?_, fun _ p np => k _ _ (Ch.new np) (.tup (SqT.of upd_same) ?_)⟩
  · rw [hl] at hw
    unfold cutT
    rw [hw.1, hw.2, List.drop_zero, Nat.sub_zero, List.take_length]
    exact r
  · unfold cutT cutV
    rw [← hl]
    exact ((rs.drop _).take _).kt (Ch.new (S := []) np).kt
theorem cutT_to (ts : List T) (n : Int) (h : 0 ≤ n) : cutT ts none (some n) = ts.take n.toNat := by
  unfold cutT
  obtain ⟨k, rfl⟩ : ∃ k : Nat, n = k := ⟨n.toNat, by omega⟩
  rw [HT.sIx_none, HT.sIx_nat, List.drop_zero, Nat.sub_zero, Int.toNat_natCast]
  by_cases hk : k ≤ ts.length
  · rw [Nat.min_eq_left hk]
  · rw [Nat.min_eq_right (by omega), List.take_of_length_le (Nat.le_refl _), List.take_of_length_le (by omega)]
theorem cutT_from (ts : List T) (k : Nat) : cutT ts (some (k : Int)) none = ts.drop k := by
  unfold cutT
  rw [HT.sIx_none, HT.sIx_nat]
  by_cases hk : k ≤ ts.length
  · rw [Nat.min_eq_left hk, List.take_of_length_le]
    rw [List.length_drop]
    exact Nat.le_refl _
  · rw [Nat.min_eq_right (by omega), List.drop_eq_nil_of_le (by omega : ts.length ≤ k), List.drop_eq_nil_of_le (Nat.le_refl _), List.take_nil]
theorem g_sl {r : V → Option Int → Option Int → Hp → VK → Prop} {te : TE} {tl th : TO} {σ : L2.St} (h : te σ H fun x H1 => tl σ H1 fun l H2 => th σ H2 fun u H3 => r x l u H3 Q) : L2.tSl r te tl th σ H Q := h
theorem g_noPart {σ : L2.St} {R : Option Int → Hp → Prop} (h : R none H) : tNoPart σ H R := h
theorem g_part {te : TE} {σ : L2.St} {R : Option Int → Hp → Prop} (h : te σ H fun x H1 => ∃ i, x = .int i ∧ R (some i) H1) : tPart te σ H R := h
/-- xs + ys -/
def rCatL (K : PySem.W.Frag) : R2 := fun x y H Q => ∃ l b xs zs, x = .ref l ∧ y = .ref b ∧ H l = some (.lst xs) ∧ H b = some (.lst zs) ∧ xs.length + zs.length ≤ sizeLine ∧ ∀ p H2, H p = none → H2 p = some (.lst (xs ++ zs)) → Ch K [] H H2 → Q (.ref p) H2
theorem op_catL {X : Cx} : OpR X (binaryOp .Add) (rCatL X.K) := by
  intro pins s σ H x y v u Q I rx ry h
  obtain ⟨l, b, xs, zs, rfl, rfl, h1, h2, hl, k⟩ := h
  exact op_cat pins s σ H _ _ v u Q I rx ry ⟨l, b, xs, zs, rfl, rfl, h1, h2, hl, fun p np => k p _ np upd_same (Ch.new np)⟩
/-- xs * k -/
def rRepL (K : PySem.W.Frag) : R2 := fun x y H Q => ∃ l k xs, x = .ref l ∧ y = .int k ∧ H l = some (.lst xs) ∧ -(2 ^ 63) ≤ k ∧ k < 2 ^ 63 ∧ xs.length * k.toNat ≤ sizeLine ∧ ∀ p H2, H p = none → H2 p = some (.lst (List.replicate k.toNat xs).flatten) → Ch K [] H H2 → Q (.ref p) H2
theorem op_repL {X : Cx} : OpR X (binaryOp .Mult) (rRepL X.K) := by
  intro pins s σ H x y v u Q I rx ry h
  obtain ⟨l, k, xs, rfl, rfl, h1, h2, h3, hl, q⟩ := h
  exact op_rep pins s σ H _ _ v u Q I rx ry ⟨l, k, xs, rfl, rfl, h1, h2, h3, hl, fun p np => q p _ np upd_same (Ch.new np)⟩
theorem g_while {c : TT} {tb : TS} {D : Ends} {σ : L2.St} (h : ∃ W : Nat → L2.St → Hp → Prop, (∃ m, W m σ H) ∧ ∀ m σ H, W m σ H →
    c σ H fun b H1 => if b = true then ∃ N : L2.St → Hp → Prop, (∀ σ' H', N σ' H' → ∃ m', m' < m ∧ W m' σ' H') ∧ tb { D with nx := N, ct := N, bk := D.nx } σ H1 else D.nx σ H1) : tWhile c tb D σ H := h
theorem g_pair {tk tv : TE} {r : List (TE × TE)} {σ : L2.St} {QP : List (V × V) → Hp → Prop} (h : tk σ H fun x H1 => tv σ H1 fun y H2 => tPairs r σ H2 fun ps H3 => QP ((x, y) :: ps) H3) : tPairs ((tk, tv) :: r) σ H QP := h
theorem g_pair0 {σ : L2.St} {QP : List (V × V) → Hp → Prop} (h : QP [] H) : tPairs [] σ H QP := h
theorem g_disp {trs : List (TE × TE)} {σ : L2.St} (h : ∀ p, H p = none → tPairs trs σ (upd H p (.dK [])) fun ps H2 => H2 p = some (.dK []) ∧ ∃ kvs : List (Key × V), ps = kvs.map (fun kv => (kV kv.1, kv.2)) ∧ kvs.length ≤ 15 ∧ Q (.ref p) (upd H2 p (.dK (mergeK [] kvs)))) : tDisp trs σ H Q := h
/-- within a comprehension: the frag by name -/
theorem pe_tupCK (K : PySem.W.Frag) {X : Cx} {es : List Expr} {t : TA} {pos : Pos} {x1} (h : PA X es t) (hK : X.K = K := by rfl) : PE X (.Tuple es x1 pos) (tTupC K t) := hK ▸ pe_tupC h
theorem pe_lstCK (K : PySem.W.Frag) {X : Cx} {es : List Expr} {t : TA} {pos : Pos} (h : PA X es t) (hK : X.K = K := by rfl) : PE X (.List es pos) (tLstC K t) := hK ▸ pe_lstC h
theorem ix_listK (K : PySem.W.Frag) {X : Cx} (hK : X.K = K := by rfl) : IxR X (rIxL K) := hK ▸ ix_list
theorem ix_tupK (K : PySem.W.Frag) {X : Cx} (hK : X.K = K := by rfl) : IxR X (rIxT K) := hK ▸ ix_tup
theorem op_catRK (K : PySem.W.Frag) {X : Cx} (hK : X.K = K := by rfl) : OpR X (binaryOp .Add) (rCatR K) := hK ▸ op_catR
theorem op_catLK (K : PySem.W.Frag) {X : Cx} (hK : X.K = K := by rfl) : OpR X (binaryOp .Add) (rCatL K) := hK ▸ op_catL
theorem op_repLK (K : PySem.W.Frag) {X : Cx} (hK : X.K = K := by rfl) : OpR X (binaryOp .Mult) (rRepL K) := hK ▸ op_repL
theorem sl_tupRK (K : PySem.W.Frag) {X : Cx} (hK : X.K = K := by rfl) : SlR X (rSlR K) := hK ▸ sl_tupR
theorem szlt {n : Nat} (h : n ≤ 1000) : n < sizeLine := Nat.lt_of_le_of_lt h (by decide)
theorem szle {n : Nat} (h : n ≤ 1000) : n ≤ sizeLine := Nat.le_trans h (by decide)
end
/-! ### types -/
def tyN : T → String
  | .int _ => "int"
  | .str _ => "str"
  | .tup _ => "tuple"
theorem Rep.ty {K : PySem.W.Frag} {H : Hp} {v : V} {t : T} (r : Rep K H v t) : TyX K H v (.type (tyN t)) := by
  cases r with
  | int i => exact .base (.int i)
  | str s => exact .base (.str s)
  | tup h q =>
    rcases h with (h | ⟨o, h⟩) | ⟨o, its, n, h, c, _⟩
    · exact .base (.tup h)
    · exact .fTuple h
    · exact .kTuple h c
theorem kit_int : ∀ t : T, kitB (tyN t) "int" = some (match t with | .int _ => true | _ => false)
  | .int _ => (show kitB "int" "int" = some true by decide +kernel)
  | .str _ => (show kitB "str" "int" = some false by decide +kernel)
  | .tup _ => (show kitB "tuple" "int" = some false by decide +kernel)
theorem kit_str : ∀ t : T, kitB (tyN t) "str" = some (match t with | .str _ => true | _ => false)
  | .int _ => (show kitB "int" "str" = some false by decide +kernel)
  | .str _ => (show kitB "str" "str" = some true by decide +kernel)
  | .tup _ => (show kitB "tuple" "str" = some false by decide +kernel)
theorem kit_tuple : ∀ t : T, kitB (tyN t) "tuple" = some (match t with | .tup _ => true | _ => false)
  | .int _ => (show kitB "int" "tuple" = some false by decide +kernel)
  | .str _ => (show kitB "str" "tuple" = some false by decide +kernel)
  | .tup _ => (show kitB "tuple" "tuple" = some true by decide +kernel)
theorem kit_bool : ∀ t : T, kitB (tyN t) "bool" = some false
  | .int _ => (show kitB "int" "bool" = some false by decide +kernel)
  | .str _ => (show kitB "str" "bool" = some false by decide +kernel)
  | .tup _ => (show kitB "tuple" "bool" = some false by decide +kernel)
theorem g_isi {K : PySem.W.Frag} {H : Hp} {Q : VK} {x : V} {a n : String} {b : Bool} (ty : TyX K H x (.type a)) (k : kitB a n = some b) (q : Q (.bl b) H) : rIsi K [x, .ty n] H Q :=
  ⟨x, .ty n, .type a, .type n, b, rfl, .ty n, ty, kit_ty k, q⟩
/-! ### what any heap knows: no list, no tuple is longer than the line -/
def Lens (K : PySem.W.Frag) (H : Hp) : Prop := (∀ a xs, SqT K H a xs → xs.length ≤ sizeLine) ∧ ∀ a xs, SqL K H a xs → xs.length ≤ sizeLine
def tLens (K : PySem.W.Frag) (t : TE) : TE := fun σ H Q => t σ H fun v H' => Lens K H' → Q v H'
theorem pe_lens {X : Cx} {e : Expr} {t : TE} (h : PE X e t) : PE X e (tLens X.K t) := by
  refine ⟨fun pins s σ H Q I hw => ?_⟩
  exact thn (h.run pins s σ H _ I hw) fun b s' ⟨v, H', I', r, q⟩ => ⟨v, H', I', r, q ⟨fun a xs hx => let ⟨_, _, _, z⟩ := I'.tuple hx; z, fun a xs hx => let ⟨_, _, _, z⟩ := I'.list hx; z⟩⟩
theorem g_lens {K : PySem.W.Frag} {t : TE} {σ : L2.St} {H : Hp} {Q : VK} (h : t σ H fun v H' => Lens K H' → Q v H') : tLens K t σ H Q := h
theorem encPs_app : ∀ (a b : List Pt), encPs (a ++ b) = encPs a ++ encPs b
  | [], b => rfl
  | p :: r, b => congrArg (encP p :: ·) (encPs_app r b)
theorem dpPs_app : ∀ (a b : List Pt), dpPs (a ++ b) = max (dpPs a) (dpPs b)
  | [], b => by simp [dpPs]
  | p :: r, b => by have := dpPs_app r b; simp only [List.cons_append, dpPs]; omega
theorem wfPs_app {n : Nat} {ps : List Nat} : ∀ {a b : List Pt}, wfPs n ps a → wfPs n ps b → wfPs n ps (a ++ b)
  | [], b, _, h => h
  | p :: r, b, h, k => ⟨h.1, wfPs_app h.2 k⟩
theorem at_of' {α : Type} {xs : List α} {n : Int} {j : Nat} (hj : j < xs.length) (e : n = (j : Int)) : atI xs n = some xs[j] := by
  rw [e]
  exact atI_nat (List.getElem?_eq_getElem hj)
theorem at_all {α : Type} {P : α → Prop} {xs : List α} {n : Int} (h0 : 0 ≤ n) (h1 : n < xs.length) (h : ∀ v ∈ xs, P v) : ∃ v, atI xs n = some v ∧ P v := by
  have hj : n.toNat < xs.length := by omega
  exact ⟨xs[n.toNat], at_of' hj (by omega), h _ (List.getElem_mem hj)⟩
mutual
theorem wfD_mono {nm : Nat} {ps : List Nat} : ∀ {n m : Nat} {d : Dd}, n ≤ m → wfD nm ps n d → wfD nm ps m d
  | _, _, .set _ _, _, h => h
  | _, _, .put _ _, _, h => h
  | _, _, .say _, _, h => h
  | _, _, .ite _ _ _, l, h => ⟨h.1, h.2.1, wfBs_mono l h.2.2.1, wfBs_mono l h.2.2.2⟩
  | _, _, .whl _ _, l, h => ⟨h.1, h.2.1, wfBs_mono l h.2.2⟩
  | _, _, .ret _, _, h => h
  | _, _, .dop _, _, h => h
theorem wfBs_mono {nm : Nat} {ps : List Nat} : ∀ {n m : Nat} {b : List Dd}, n ≤ m → wfBs nm ps n b → wfBs nm ps m b
  | _, _, [], _, _ => by unfold wfBs; trivial
  | 0, _, _ :: _, _, h => h.elim
  | n + 1, 0, _ :: _, l, _ => by omega
  | n + 1, m + 1, d :: r, l, h => ⟨wfD_mono (by omega) h.1, wfBs_mono l h.2⟩
end
end Bq
end

section
set_option maxRecDepth 100000
set_option maxHeartbeats 1000000
namespace Bq
open PySem PySem.Spec PyProof.Rows L2
/-- d.update(e) -/
def rDupd : V → List V → Hp → VK → Prop := fun x xs H Q => ∃ a b kvs more, x = .ref a ∧ xs = [.ref b] ∧ a ≠ b ∧ H a = some (.dK kvs) ∧ H b = some (.dK more) ∧ kvs.length + more.length ≤ sizeLine ∧ Q .non (upd H a (.dK (mergeK kvs more)))
theorem mt_dupd {X : Cx} : MtR X "dict.update" rDupd := by
  intro pins s σ H x xs v us Q I rx rxs h
  obtain ⟨a, b, kvs, more, rfl, rfl, hne, ea, eb, hz, q⟩ := h
  obtain rfl : v = Value.ref a := rx
  obtain ⟨u, rfl, ru⟩ := Vals.one rxs
  obtain rfl : u = Value.ref b := ru
  obtain ⟨z, hd, vs, rel, dd⟩ := dk_of I.hok ea
  obtain ⟨z2, hd2, ws, rel2, dd2⟩ := dk_of I.hok eb
  refine call_meetsIn PySem.F.slot_dict_update dd.typeIs PySem.F.entry_dict_update (PySem.F.args_dict_update_2 _ _) (meets_dict_update (mixKind X.prog X.w) a b hne hd2) ⟨vs, ws, dd, dd2, by rw [← rel.length, ← rel2.length]; exact hz, fun h' dd' _ hs => ?_⟩
  have he : ∃ q, h'.get? a = some q := let ⟨q, _, _, hq, _⟩ := dd'; ⟨q, hq⟩
  have hl : (mergeK kvs more).length ≤ sizeLine := Nat.le_trans (length_mergeK more kvs) hz
  exact ⟨.non, _, d_write (t' := s.toks) I (by rw [ea]; exact True.intro) hs he (dk_new hl hd (rel2.merge rel) dd'), rfl, q⟩
/-- xs[i], a list or a tuple -/
def rIxE (K : PySem.W.Frag) : R2 := fun x y H Q => rIxL K x y H Q ∨ rIxT K x y H Q
theorem ix_seq {X : Cx} : IxR X (rIxE X.K) := by
  intro value slice pins s σ H x y v u Q I rx ry h hs
  rcases h with h | h
  · exact ix_list value slice pins s σ H x y v u Q I rx ry h hs
  · exact ix_tup value slice pins s σ H x y v u Q I rx ry h hs
theorem g_inT {K : PySem.W.Frag} {H : Hp} {p : Addr} {xs : List V} {x : V} {Q : VK} (h : SqT K H p xs) (fx : flatV x = true) (fs : xs.all flatV = true) (q : Q (.bl (inV x xs)) H) : rIn K false x (.ref p) H Q :=
  ⟨p, xs, rfl, .inr h, fx, fs, q⟩
theorem g_isN {H : Hp} {x : V} {Q : VK} (q : Q (.bl (decide (x = .non))) H) : (fun (x y : V) (H : Hp) (Q : VK) => y = .non ∧ Q (.bl (decide (x = .non))) H) x .non H Q := ⟨rfl, q⟩
theorem tkT {A B : Prop} {b : Bool} (e : b = true) (h : A) : if b = true then A else B := by rw [if_pos e]; exact h
theorem tkF {A B : Prop} {b : Bool} (e : b = false) (h : B) : if b = true then A else B := by rw [e, if_neg Bool.false_ne_true]; exact h
theorem g_dget2 {td ty tx : TE} {σ : L2.St} {H : Hp} {Q : VK} (h : td σ H fun x H1 => ∃ a, x = .ref a ∧ IsD H1 a ∧ ty σ H1 fun y H2 => tx σ H2 fun z H3 => ∃ o, DGet H3 a y o ∧ Q (o.getD z) H3) : tDGet2 td ty tx σ H Q := h
end Bq
end

section
set_option maxRecDepth 100000
set_option maxHeartbeats 1000000
namespace Bq
open PySem PySem.Spec PyProof.Rows L2
/-! ### match over tuples that begin with a text -/
def capB : List (Option Str) → List Value → List (Str × Value)
  | some x :: r, v :: vs => (x, v) :: capB r vs
  | none :: r, _ :: vs => capB r vs
  | _, _ => []
def capS : List (Option Nat) → List V → L2.St → L2.St
  | some i :: r, v :: vs, σ => capS r vs (σ.set i (some v))
  | none :: r, _ :: vs, σ => capS r vs σ
  | _, _, σ => σ
def capN : List Pattern → Option (List (Option Str))
  | [] => some []
  | .MatchAs none n _ :: r => (capN r).map (n :: ·)
  | _ => none
theorem each_cap {M : Model} {A : Around} {E : Value → Shared → Prop} {env : Env} {s : Shared} : ∀ {ps : List Pattern} {nms : List (Option Str)} {vs : List Value} {Q : Option (List (Str × Value)) → Shared → Prop}, capN ps = some nms → vs.length = ps.length → Q (some (capB nms vs)) s →
    wpAny M A (matchEach ps env vs) Q E s
  | [], nms, vs, Q, h, hl, q => by
    cases h
    refine wpAny_matchEach_nil ?_
    cases vs with
    | nil => exact q
    | cons v r => cases hl
  | p :: r, nms, vs, Q, h, hl, q => by
    cases vs with
    | nil => cases hl
    | cons v us =>
      cases p with
      | MatchAs pp n pos =>
        cases pp with
        | some x => cases h
        | none =>
          cases e : capN r with
          | none =>
            simp only [capN, e] at h
            cases h
          | some ns =>
            simp only [capN, e, Option.map_some, Option.some.injEq] at h
            subst h
            refine wpAny_matchEach_cons (wpAny_matchPattern_Capture ?_)
            refine each_cap e (Nat.succ.inj hl) ?_
            cases n with
            | none => exact q
            | some x => exact q
      | _ => cases h
/-- the names caught stand in their slots -/
inductive CapOk (X : Cx) : List (Option Str) → List (Option Nat) → Prop where
  | nil : CapOk X [] []
  | skip {n sl} (h : CapOk X n sl) : CapOk X (none :: n) (none :: sl)
  | cap {x i n sl} (hi : X.N[i]? = some x) (hx : Loc X.env.scope x) (hf : X.fn x = true ∨ X.env.scope.names.lookup x = some .local) (h : CapOk X n sl) : CapOk X (some x :: n) (some i :: sl)
theorem bind_cap {X : Cx} (hN : X.N.Nodup) {pins : List (Addr × Obj)} {H : Hp} {n : List (Option Str)} {sl : List (Option Nat)} (c : CapOk X n sl) : ∀ {vs : List V} {us : List Value} {σ : L2.St} {s : Shared}, Vals vs us → Inv X pins σ H s →
    wpAny (model X.prog X.w) X.A (assignInOrder ((capB n us).map fun p => bindName X.env p.1) ((capB n us).map (·.2))) (fun _ s' => Inv X pins (capS sl vs σ) H s') X.xe s := by
  induction c with
  | nil =>
    intro vs us σ s r I
    have e : capB [] us = [] := by cases us <;> rfl
    rw [e]
    have e2 : capS [] vs σ = σ := by cases vs <;> rfl
    rw [e2]
    exact assignInOrder_nil I
  | skip h ih =>
    intro vs us σ s r I
    cases r with
    | nil => exact assignInOrder_nil I
    | cons r0 r => exact ih r I
  | cap hi hx hf h ih =>
    intro vs us σ s r I
    cases r with
    | nil => exact assignInOrder_nil I
    | cons r0 r => exact assignInOrder_cons (wpAny_bindName (store_ok I hN hi hx r0 (fun s' I' => ih r I') hf))
structure PCs (X : Cx) (cases : List MatchCase) (t : V → TS) : Prop where
  run : ∀ (first : Bool) (pins : List (Addr × Obj)) (s : Shared) (σ : L2.St) (H : Hp) (D : Ends) (v : V) (u : Value), Inv X pins σ H s → RelV v u → t v D σ H → wpAny (model X.prog X.w) X.A (matchCases cases X.env u first) (SP X pins D) X.xe s
def tMatch (te : TE) (t : V → TS) : TS := fun D σ H => te σ H fun v H1 => t v D σ H1
theorem ps_match {X : Cx} {e : Expr} {cs : List MatchCase} {pos : Pos} {te : TE} {t : V → TS} (he : PE X e te) (hc : PCs X cs t) : PS X (.Match e cs pos) (tMatch te t) := by
  refine ⟨fun pins s σ H D I h => ?_⟩
  exact wpAny_Match (thn (he.run pins s σ H _ I h) fun u s1 ⟨v, H1, I1, r, q⟩ => hc.run true pins s1 σ H1 D v u I1 r q)
theorem pcs_nil {X : Cx} : PCs X [] (fun _ => tNext) := ⟨fun _ _ s σ H D _ _ I _ q => wpAny_matchCases_nil ⟨σ, H, I, q⟩⟩
theorem pcs_wild {X : Cx} {body : List Stmt} {tb : TS} {p : Pos} (hb : PSs X body tb) : PCs X [⟨.MatchAs none none p, none, body⟩] (fun _ => tb) := ⟨fun _ pins s σ H D _ _ I _ q =>
  wpAny_matchCases_cons (wpAny_matchPattern_Capture (assignInOrder_nil (hb.run pins s σ H D I q)))⟩
/-- the next case: a tuple of n whose first is the text w; the rest as the slots say -/
def tCase (K : PySem.W.Frag) (w : Str) (n : Nat) (sl : List (Option Nat)) (tb : TS) (tr : V → TS) : V → TS := fun v D σ H => ∃ a z xs, v = .ref a ∧ SqT K H a (.str z :: xs) ∧ if decide (xs.length = n ∧ z = w) = true then tb D (capS sl xs σ) H else tr v D σ H
theorem pcs_case {X : Cx} {w : Str} {k : Nat} {p0 p1 p2 : Pos} {ps : List Pattern} {nms : List (Option Str)} {sl : List (Option Nat)} {body : List Stmt} {rest : List MatchCase} {tb : TS} {tr : V → TS} {n : Nat} (hcalm : X.calm = true) (hN : X.N.Nodup) (hcap : capN ps = some nms) (hsl : CapOk X nms sl)
    (hb : PSs X body tb) (hr : PCs X rest tr) (hlen : ps.length = n := by rfl) (hstar : (Pattern.MatchValue (.Constant (.str w) k p0) p1 :: ps).findIdx? (·.isStar) = none := by rfl) :
    PCs X (⟨.MatchSequence (.MatchValue (.Constant (.str w) k p0) p1 :: ps) p2, none, body⟩ :: rest) (tCase X.K w n sl tb tr) := by
  refine ⟨fun first pins s σ H D v u I r h => ?_⟩
  obtain ⟨a, z, xs, rfl, hS, q⟩ := h
  cases r
  obtain ⟨its, rv, ht, hz⟩ := I.tuple hS
  have hfit : ((its.toArray.size : Nat) : Int) < 2 ^ 63 := by
    have h1 := rv.length
    rw [sizeLine_eq] at hz
    simp only [List.size_toArray]
    omega
  have hits : its.toArray.size = xs.length + 1 := by
    have h1 := rv.length
    simp only [List.size_toArray, ← h1, List.length_cons]
  have hwild : ((Pattern.MatchValue (.Constant (.str w) k p0) p1 :: ps).all fun p => p.isWildcard || (p.isStar && p.names.isEmpty)) = false := by
    simp [List.all_cons, Pattern.isWildcard, Pattern.isStar]
  refine wpAny_matchCases_cons ?_
  by_cases hl : xs.length = n
  · refine matchSeq_tuple_hit ht hfit (by rw [hits, List.length_cons, hlen, hl]) ?_ hstar hwild
    have e : (Pattern.MatchValue (.Constant (.str w) k p0) p1 :: ps).length = its.toArray.size := by rw [hits, List.length_cons, hlen, hl]
    rw [e]
    have I0 : Inv X pins σ H { s with toks := s.toks + 1 + 1 } := (I.tok _).tok _
    refine unpackItems_tuple (I.ok.hd hcalm) ht fun h' hx => ?_
    have I1 : Inv X pins σ H { s with heap := h', toks := s.toks + 1 + 1 } := I0.kept (t' := s.toks + 1 + 1) fun b o e => hx b o (Nat.ne_of_lt (Heap.lt_size e)) e
    cases rv with
    | @cons _ u0 _ us r0 rr =>
      obtain ⟨t0, rfl⟩ := r0
      show wpAny _ _ (matchEach (Pattern.MatchValue (.Constant (.str w) k p0) p1 :: ps) X.env (Value.str z t0 :: us)) _ _ _
      refine wpAny_matchEach_cons (wpAny_matchPattern_Value (Calls.Constant_str ?_))
      have I2 := I1.tok (s.toks + 1 + 1 + 1)
      refine wpAny_mono (op_eq pins _ σ H (.str z) (.str w) _ _ (fun v H' => v = .bl (decide (V.str z = V.str w)) ∧ H' = H) I2 ⟨_, rfl⟩ ⟨_, rfl⟩ ⟨rfl, rfl, rfl⟩) (fun c s2 hc => ?_) fun _ _ z => z
      obtain ⟨_, H3, I3, rb, rfl, e3⟩ := hc
      subst e3
      cases rb
      refine wpAny_truthy_bool ?_
      have hus : us.length = ps.length := by rw [hlen, ← hl, rr.length]
      by_cases hw : z = w
      · subst hw
        rw [if_pos (by simp)]
        refine each_cap hcap hus ?_
        simp only [List.nil_append]
        rw [if_pos (by simp [hl])] at q
        exact wpAny_mono (bind_cap hN hsl rr I3) (fun _ s4 I4 => hb.run pins s4 _ _ D I4 q) fun _ _ z => z
      · rw [if_neg (by simpa using hw)]
        rw [if_neg (by simp [hw])] at q
        exact hr.run false pins s2 σ _ D (.ref a) _ I3 rfl q
  · refine matchSeq_tuple_miss ht hfit (by rw [hits, List.length_cons, hlen]; omega) ?_ hstar hwild
    rw [if_neg (by simp [hl])] at q
    exact hr.run false pins _ σ H D (.ref a) _ ((I.tok _).tok _) rfl q
end Bq
end

section
set_option maxRecDepth 100000
set_option maxHeartbeats 1000000
namespace Bq
open PySem PySem.Spec PyProof.Rows L2
/-! ### del xs[a:] -/
theorem cut_eq (a : Nat) : ∀ (its : List Value) (k n : Nat), n = k + its.length → (its.zipIdx k).filterMap (fun (x, i) => if (if (1 : Int) > 0 then ((decide ((a : Int) ≤ (i : Nat)) && decide (((i : Nat) : Int) < (n : Nat))) && ((((i : Nat) : Int) - (a : Int)) % 1 == 0)) else (decide (((n : Nat) : Int) < (i : Nat)) && decide (((i : Nat) : Int) ≤ (a : Int)) && (((a : Int) - ((i : Nat) : Int)) % (-1) == 0))) = true then none else some x) = its.take (a - k)
  | [], k, n, _ => by simp
  | x :: r, k, n, hn => by
    have ih := cut_eq a r (k + 1) n (by rw [hn, List.length_cons]; omega)
    rw [List.zipIdx_cons, List.filterMap_cons, ih]
    have h1 : ((((k : Nat) : Int) - (a : Int)) % 1 == 0) = true := by rw [Int.emod_one]; rfl
    have h2 : decide (((k : Nat) : Int) < (n : Nat)) = true := decide_eq_true (by rw [hn, List.length_cons]; omega)
    by_cases h : a ≤ k
    · have h3 : decide ((a : Int) ≤ (k : Nat)) = true := decide_eq_true (by omega)
      simp only [h1, h2, h3, show (1 : Int) > 0 by decide, if_true, Bool.and_self]
      rw [show a - k = 0 by omega, show a - (k + 1) = 0 by omega]
      simp
    · have h3 : decide ((a : Int) ≤ (k : Nat)) = false := decide_eq_false (by omega)
      simp only [h3, show (1 : Int) > 0 by decide, if_true, Bool.false_and, Bool.false_eq_true, if_false]
      rw [show a - k = (a - (k + 1)) + 1 by omega]
      simp
section
variable {prog : Program} {w : World} {A : Around} {E : Value → Shared → Prop} {s : Shared}
theorem bounds_tail {a n : Nat} (ha : a ≤ n) : sliceBounds (some (a : Int)) none none n = ((a : Int), (n : Int), 1) := by
  simp only [sliceBounds, Option.getD_none]
  have h1 : ¬ ((a : Int) < 0) := by omega
  simp only [h1, if_false, show (1 : Int) > 0 by decide, if_true]
  congr 1
  · omega
theorem upd_cut {M : Model} {l : Addr} {items : Array Value} {n a : Nat} {f : Array Value → Array Value} {Q : Unit → Shared → Prop} (hf : f items = (items.toList.take a).toArray) (hsz : items.size ≤ sizeLine)
    (e : s.heap.get? l = some { cls := .type "list", data := .seq items n }) (h : Q () { s with heap := s.heap.update l (Obj.mapSeq f) }) : wpAny M A (updateSeq l f) Q E s :=
  wpAny_updateSeq (hz := hsz) (_hz' := by
    rw [hf, List.size_toArray, List.length_take]
    simp only [Array.length_toList]
    omega) e rfl h
set_option maxRecDepth 100000 in
theorem delItem_cut {l sl : Addr} {items : Array Value} {n : Nat} {vl : Value} {a : Nat} {Q : Unit → Shared → Prop}
    (e : s.heap.get? l = some { cls := .type "list", data := .seq items n }) (hs : s.heap.IsSliceOf sl vl .none .none) (pl : IsPart vl (some (a : Int))) (ha : a ≤ items.size) (hsz : items.size ≤ sizeLine)
    (h : ∀ f : Array Value → Array Value, f items = (items.toList.take a).toArray → Q () { s with heap := s.heap.update l (Obj.mapSeq f) }) :
    wpAny (model prog w) A (delItem (.ref l) (.ref sl)) Q E s := by
  have hl : s.heap.IsList l items := PySem.IsL.isList e
  obtain ⟨os, hos, hcs, hds⟩ := id hs
  have hTs : s.TypeIs (.ref sl) "slice" := ⟨os, hos, hcs⟩
  have hstep : ¬ ((rawPart none == rawInt 0) = true) := Bool.false_ne_true
  unfold delItem
  try with_reducible refine wpAny_holding ?_
  first | refine wpAny_bind (wpAny_pure ?_) | skip
  refine wpAny_bind (wpAny_sequenceKey hl.typeIs (by decide) ?_)
  refine wpAny_bind (wpAny_callSpecial?_slot (name := Str.ofString "__delitem__") hl.typeIs F.slot_list_delitem
    (wpAny_call_entry F.slot_list_delitem hl.typeIs F.entry_list_delitem ?_ (F.args_list_delitem_2 _ _)))
  show wpAny _ _ (Builtin.List.listSubscript? (.ref sl) >>= _) _ _ s
  refine wpAny_bind ?_
  unfold Builtin.List.listSubscript?
  refine wpAny_bind (wpAny_specialOf hTs slice_no_index ?_)
  simp only [Option.isNone_none, if_true]
  refine wpAny_pure ?_
  show wpAny _ _ (typeOf (.ref sl) >>= _) _ _ s
  refine wpAny_bind (wpAny_typeOf hTs ?_)
  first
    | rw [if_neg (by decide)]
    | refine PySem.W.KFB.if_not (by decide) ?_
  rw [listSliceParts_eq]
  refine wpAny_bind (wpAny_bind (wpAny_field hos hds (x := .none) rfl (wpAny_bind (wpAny_listPart .none ?_))))
  rw [if_neg hstep]
  refine wpAny_bind (wpAny_field hos hds (x := vl) rfl (wpAny_bind (wpAny_listPart pl ?_)))
  refine wpAny_bind (wpAny_field hos hds (x := .none) rfl (wpAny_bind (wpAny_listPart .none (wpAny_pure ?_))))
  unfold Builtin.List.listItems
  refine wpAny_bind (wpAny_bind (wpAny_seqItems e rfl (wpAny_pure ?_)))
  refine wpAny_bind (wpAny_of_eq ((sliceIndices_raw (some (a : Int)) none none items.size (by simp)).trans (congrArg (pure : Int × Int × Int → Sem (Int × Int × Int)) (bounds_tail ha))) ?_)
  refine wpAny_bind (wpAny_rule ?_)
  refine wpAny_bind (m := updateSeq l _) ?_
  refine upd_cut (a := a) ?hf hsz e ?_
  case hf =>
    show (List.filterMap _ items.toList.zipIdx).toArray = _
    exact congrArg List.toArray (cut_eq a items.toList 0 items.size (by simp))
  refine wpAny_bind (wpAny_letGo ?_)
  first
    | refine wpAny_bind (wpAny_pure (wpAny_pure ⟨.none, rfl, wpAny_pure (h _ ?_)⟩))
    | refine wpAny_pure ⟨.none, rfl, wpAny_pure (h _ ?_)⟩
  show (List.filterMap _ items.toList.zipIdx).toArray = _
  exact congrArg List.toArray (cut_eq a items.toList 0 items.size (by simp))
/-- del xs[a:] -/
def tDelCut (to : TE) (tl : TO) : TS := fun D σ H => to σ H fun x H1 => tl σ H1 fun o H2 => ∃ (l : Addr) (xs : List V) (a : Nat), x = .ref l ∧ o = some (a : Int) ∧ H2 l = some (.lst xs) ∧ a ≤ xs.length ∧ D.nx σ (upd H2 l (.lst (xs.take a)))
theorem ps_delCut {X : Cx} {o : Expr} {lo : Option Expr} {to : TE} {tl : TO} {pos tpos p2 : Pos} (ho : PE X o to) (hl : PO X lo tl) : PS X (.Delete [.Subscript o (.Slice lo none none p2) tpos] pos) (tDelCut to tl) := by
  refine ⟨fun pins s σ H D I h => ?_⟩
  refine wpAny_Delete (wpAny_deleteEach_cons (wpAny_delete_Subscript (thn (ho.run pins s σ H _ I h) fun u s1 ⟨x, H1, I1, rx, q1⟩ => ?_)))
  refine wpAny_Slice (thn (hl.run pins s1 σ H1 _ I1 q1) fun vl s2 ⟨o, H2, I2, pl, q2⟩ => ?_)
  rw [evalPart_none]
  refine wpAny_pure (wpAny_pure ?_)
  obtain ⟨l, xs, a, rfl, rfl, hH, ha, q3⟩ := q2
  cases (show u = Value.ref l from rx)
  have I4 : Inv X pins σ H2 { s2 with heap := s2.heap.push { cls := .type "slice", data := .fields #[vl, .none, .none] } } := I2.kept (t' := s2.toks) fun b ob q => Heap.get?_push_of_some _ q
  obtain ⟨z, its, n, r, hl2, e⟩ := I4.lstM hH
  refine delItem_cut e (Heap.IsSliceOf.new ..) pl (by rw [List.size_toArray, ← hl2]; exact ha) (by rw [List.size_toArray, ← hl2]; exact z) fun f hf => wpAny_deleteEach_nil ⟨σ, _, I4.lset (its' := its.take a) (t' := s2.toks) hH e ?_ (r.take a) ?_, q3⟩
  · exact hf
  · rw [List.length_take]
    omega
end
end Bq
end

section
set_option maxRecDepth 100000
set_option maxHeartbeats 1000000
namespace Bq
open PySem PySem.Spec PyProof.Rows L2
/-! ### the module's tables -/
/-- a tuple of texts at a -/
def strsAt (K : PySem.W.Frag) (a : Addr) (ss : List Str) : Bool := match K.lookup a with
  | some ⟨.type c, _, .seq its _, _⟩ => decide (c = "tuple") && (decide (its.size ≤ sizeLine) && He.relAll (ss.map V.str) its.toList)
  | _ => false
theorem strsAt_ok {K : PySem.W.Frag} {a : Addr} {ss : List Str} (h : strsAt K a ss = true) (H : Hp) : SqT K H a (ss.map V.str) := by
  unfold strsAt at h
  cases q : K.lookup a with
  | none =>
    rw [q] at h
    cases h
  | some o =>
    obtain ⟨oc, od, dt, osl⟩ := o
    rw [q] at h
    cases oc with
    | type c =>
      cases dt with
      | seq its n =>
        obtain ⟨h1, h2⟩ := He.ba (show (decide (c = "tuple") && (decide (its.size ≤ sizeLine) && He.relAll (ss.map V.str) its.toList)) = true from h)
        obtain ⟨h3, h4⟩ := He.ba h2
        exact .inr ⟨_, its, n, q, congrArg Value.type (of_decide_eq_true h1), rfl, of_decide_eq_true h3, He.relAll_ok h4⟩
      | _ => cases h
    | _ => cases dt <;> cases h
def modTup (K : PySem.W.Frag) (x : Str) (ss : List Str) : Bool := strsAt K (He.ga K x) ss
theorem modTup_ok {K : PySem.W.Frag} {x : Str} {ss : List Str} (h : modTup K x ss = true) (H : Hp) : SqT K H (He.ga K x) (ss.map V.str) := strsAt_ok h H
def tabEnt (K : PySem.W.Frag) (d : Addr) (z : Str) : Option (List Str) → Bool
  | none => He.eqO (PySem.W.nsIn K d z) (some none)
  | some ss => match PySem.W.nsIn K d z with
    | some (some (.ref t)) => strsAt K t ss
    | _ => false
def modTab (K : PySem.W.Frag) (x : Str) (l : List (Str × Option (List Str))) : Bool := l.all fun p => tabEnt K (He.ga K x) p.1 p.2
theorem modTab_no {K : PySem.W.Frag} {x z : Str} {l : List (Str × Option (List Str))} (h : modTab K x l = true) (hz : (z, none) ∈ l) : PySem.W.nsIn K (He.ga K x) z = some none :=
  He.eqO_ok (List.all_eq_true.mp h _ hz)
theorem modTab_yes {K : PySem.W.Frag} {x z : Str} {ss : List Str} {l : List (Str × Option (List Str))} (h : modTab K x l = true) (hz : (z, some ss) ∈ l) : ∃ t, PySem.W.nsIn K (He.ga K x) z = some (some (.ref t)) ∧ ∀ H, SqT K H t (ss.map V.str) := by
  have h1 := List.all_eq_true.mp h _ hz
  simp only [tabEnt] at h1
  split at h1
  · rename_i t e
    exact ⟨t, e, fun H => strsAt_ok h1 H⟩
  · cases h1
/-- d[key], d a table of the module -/
def tKGet (K : PySem.W.Frag) (td ty : TE) : TE := fun σ H Q => td σ H fun x H1 => ty σ H1 fun y H2 => ∃ (d : Addr) (z : Str) (u0 : Value) (v0 : V), x = .ref d ∧ y = .str z ∧ PySem.W.nsIn K d z = some (some u0) ∧ RelV v0 u0 ∧ Q v0 H2
theorem pe_kget {X : Cx} {d : Addr} {o i : Expr} {pos p : Pos} {x : Str} {ty : TE} (hD : ∃ es n, KDict X.K X.w d es n) (hg : Gl X x) (hm : X.mg x = some (.ref d)) (hi : PE X i ty) (hs : NoSl i) (hdb : (x == ("__debug__" : Str)) = false := by decide) : PE X (.Subscript (.Name x p) i pos) (tKGet X.K (tC (.ref d)) ty) := by
  obtain ⟨es, n, D⟩ := hD
  refine ⟨fun pins s σ H Q I h => ?_⟩
  have ho : PE X (.Name x p) (tC (.ref d)) := pe_glob hg hm rfl (hd := hdb)
  refine subD_of PySem.F.slot_dict_getitem.lookup hs (thn (ho.run pins s σ H (fun x' H1 => x' = .ref d ∧ H1 = H) I ⟨rfl, rfl⟩) fun u s1 ⟨x1, H1, I1, rx, ex, eh⟩ => ?_)
  subst ex
  subst eh
  obtain rfl : u = Value.ref d := rx
  refine thn (hi.run pins s1 σ _ _ I1 h) fun iv s2 ⟨y, H2, I2, ry, d', z, u0, v0, ex, ey, e, r, q2⟩ => ?_
  obtain rfl : d = d' := by injection ex
  exact ⟨kd_type D I2, op_item_kd D pins s2 σ H2 (.ref d) y _ _ Q I2 rfl ry ⟨z, u0, v0, rfl, ey, e, r, q2⟩⟩
/-- x in d, d a table of the module -/
theorem op_in_mod {X : Cx} {d : Addr} (hD : ∃ es n, KDict X.K X.w d es n) : OpR X (compareOp .In) (fun x y H Q => ∃ (z : Str) (r : Option Value), x = .str z ∧ y = .ref d ∧ PySem.W.nsIn X.K d z = some r ∧ Q (.bl r.isSome) H) := by
  obtain ⟨es, n, D⟩ := hD
  exact op_in_kd D
theorem pe_iglob {X : Cx} {x : Str} {i : Int} {pos : Pos} (hg : Gl X x) (hm : ∃ t, X.mg x = some (.int i t)) (hdb : (x == ("__debug__" : Str)) = false := by decide) : PE X (.Name x pos) (tC (.int i)) := by
  obtain ⟨t, hm⟩ := hm
  exact pe_glob hg hm ⟨_, rfl⟩ (hd := hdb)
/-! ### own classes: their making, their methods -/
def Ini (P : Program) (w : World) (K : PySem.W.Frag) (mg : Str → Option Value) (base : Heap) (CX : CXT) (k : Nat) (x : Str) (ps : List Str) (sp : Sp) : Prop :=
  ∃ C f fd, FnOk P w K mg base CX k f fd ps sp ∧ Binds K fd ps [] ∧ Mk K C f ∧ mg x = some (.ref C)
def Mth (P : Program) (w : World) (K : PySem.W.Frag) (mg : Str → Option Value) (base : Heap) (CX : CXT) (k : Nat) (C : Addr) (m : Str) (ps : List Str) (sp : Sp) : Prop :=
  ∃ f fd, FnOk P w K mg base CX k f fd ps sp ∧ Binds K fd ps [] ∧ Meth K C m f
end Bq
end

section
set_option maxRecDepth 100000
set_option maxHeartbeats 1000000
namespace PySem
theorem meets_enumerate_newT (l : Addr) (o : Obj) (H : Heap → Prop) (B : Begins (.ref l) o H) :
    Meets (Builtin.«enumerate.__new__» ⟨[.type "enumerate", .ref l], []⟩) (fun _ R s => H s.heap ∧
      R (.ok (.ret (.ref (s.heap.push o).objs.size))) { s with heap := (s.heap.push o).push { cls := .type "enumerate", data := .fields #[.none, .bool false, .ref s.heap.objs.size, rawInt 0, .none, .none] } }) :=
  .of_wp fun prog w A R s h => by
    obtain ⟨hp, g, d, tk, os⟩ := s; obtain ⟨h1, h⟩ := h
    have hsub := sub_enumerate
    have q1 : ∀ {A' : Around} {E : Value → Shared → Prop} {Q : Value → Shared → Prop}, Q (.ref hp.objs.size) ⟨hp.push o, g, d, tk, os⟩ → wpAny (model prog w) A' (pyIter (.ref l)) Q E ⟨hp, g, d, tk, os⟩ :=
      fun q => B.iter prog w _ _ ⟨hp, g, d, tk, os⟩ _ h1 q
    wp_walk using q1
    refine wpAny_stack_any fun st => wpAny_pure ?_
    split
    · rename_i c _ _ _ _ _
      cases (c == Value.type "enumerate")
      · wp_walk using q1
        exact ⟨_, rfl, h⟩
      · wp_walk using q1
        exact ⟨_, rfl, h⟩
    · wp_walk using q1
      exact ⟨_, rfl, h⟩
theorem enum_begins1 {prog : Program} {w : World} {A : Around} {E : Value → Shared → Prop} {s : Shared} {l : Addr} {o : Obj} {H : Heap → Prop} {Q : Value → Shared → Prop} (B : Begins (.ref l) o H) (h1 : H s.heap)
    (h : ∀ h', IsEnum h' (s.heap.objs.size + 1) s.heap.objs.size 0 .none → h'.get? s.heap.objs.size = some o → h'.objs.size = s.heap.objs.size + 2 →
      (∀ b o, s.heap.get? b = some o → h'.get? b = some o) → Q (.ref (s.heap.objs.size + 1)) { s with heap := h' }) :
    wpAny (model prog w) A (call (.type "enumerate") [.ref l]) Q E s := by
  refine callType_new F.called_enumerate (by decide) (F.typeCall_enumerate_1 _) (F.newCall_enumerate_1 _) (fun obj => F.args_object_init_2 obj _) F.entry_enumerate_new
    (meets_enumerate_newT l o H B) ⟨h1, ?_⟩
  have hz : (s.heap.push o).objs.size = s.heap.objs.size + 1 := Heap.size_push ..
  show _ ∧ _
  rw [hz]
  have he : IsEnum ((s.heap.push o).push { cls := .type "enumerate", data := .fields #[.none, .bool false, .ref s.heap.objs.size, rawInt 0, .none, .none] }) (s.heap.objs.size + 1) s.heap.objs.size 0 .none := by
    have := Heap.get?_push_size (s.heap.push o) (o := { cls := .type "enumerate", data := .fields #[.none, .bool false, .ref s.heap.objs.size, rawInt 0, .none, .none] }) rfl
    rw [hz] at this; exact this
  refine ⟨⟨_, he, rfl⟩, h _ he (Heap.get?_push_of_some _ (Heap.get?_push_size _ B.free)) (by rw [Heap.size_push, hz]) fun b o x => Heap.get?_push_of_some _ (Heap.get?_push_of_some _ x)⟩
theorem enumT_end {prog : Program} {w : World} {A : Around} {E : Value → Shared → Prop} {s : Shared} {e it l : Addr} {i : Nat} {items : Array Value} {old : Value} {Q : Option Value → Shared → Prop} (hh : A.handled = none)
    (he : IsEnum s.heap e it i old) (hit : s.heap.IsTupleIter it l i) (hl : s.heap.IsTuple l items) (hx : items[i]? = none)
    (hQ : ∀ h', Heap.ExtBut it s.heap h' → Q none { s with heap := h' }) : wpAny (model prog w) A (pyNext (.ref e)) Q E s := by
  have hT : s.TypeIs (.ref e) "enumerate" := ⟨_, he, rfl⟩
  unfold pyNext
  refine wpAny_bind (wpAny_attempt (wpAny_callSpecial?_slot (name := Str.ofString "__next__") hT F.slot_enumerate_next
    (wpAny_call_entry F.slot_enumerate_next hT F.entry_enumerate_next ?_ (F.args_enumerate_next_1 _))))
  show wpAny _ _ (field (.ref e) 2 >>= _) _ _ _
  refine wpAny_bind (wpAny_field he rfl (x := .ref it) rfl ?_)
  refine wpAny_bind (wpAny_nextOf_tuple_end hh hit hl hx fun h' x he' hx' => ?_)
  obtain ⟨o, ho, hc⟩ := hx'
  refine wpAny_bind (wpAny_isInstance (T := "StopIteration") (b := true) ⟨o, ho, hc⟩ isSubtype_stop ?_)
  exact wpAny_pure (hQ _ he')
end PySem
namespace Bq
open PySem PySem.Spec PyProof.Rows L2
/-! ### enumerate(tuple) -/
def Iet (K : PySem.W.Frag) (a : Addr) : It :=
  ⟨fun i H => ∃ (xs : List V) (x : V), SqT K H a xs ∧ xs[i]? = some x, fun i H v H' => ∃ T x, v = .ref T ∧ H T = none ∧ H' = upd H T (.tup [.int (i : Nat), x]) ∧ ∀ xs, SqT K H a xs → xs[i]? = some x, fun i H => ∃ xs : List V, SqT K H a xs ∧ xs.length ≤ i⟩
theorem turn_enumT {P : Program} {w : World} {K : PySem.W.Frag} {elts : List Expr} {kk : Nat} {tpos : Pos} (a e it : Addr) :
    Turn P w K (.Tuple elts kk tpos) (Iet K a) [e, it] e (fun i h => (∃ old, IsEnum h e it ((i : Nat) : Int) old) ∧ h.IsTupleIter it a i ∧ e ≠ it ∧ a ≠ it ∧ a ≠ e) where
  mem := by simp
  obj := fun i h st b hb => by
    obtain ⟨⟨old, he⟩, ⟨o, ho, hc, hd⟩, _⟩ := st
    have e' : b = e ∨ b = it := by simpa using hb
    rcases e' with z | z
    · rw [z]; exact ⟨_, he, fun v q => nomatch q⟩
    · rw [z]; exact ⟨o, ho, fun v q => by rw [hd] at q; cases q⟩
  keep := fun i h h' st k => let ⟨⟨old, he⟩, hi, hr⟩ := st; ⟨⟨old, k e (by simp) _ he⟩, hi.at fun o q => k it (by simp) o q, hr⟩
  item := by
    intro X hP hw hK hc i pins s σ H E I hf st hg
    subst hP hw hK
    obtain ⟨⟨old, he⟩, hit, hne, hai, hae⟩ := st
    obtain ⟨xs, x, hq, hx⟩ := hg
    obtain ⟨its, rv, p, hz⟩ := I.tuple hq
    obtain ⟨u, hu, ru⟩ := rv.get hx
    have hel : e < s.heap.objs.size := Heap.lt_size he
    have hil : it < s.heap.objs.size := by obtain ⟨_, q, _⟩ := hit; exact Heap.lt_size q
    have pT : s.heap.IsTuple a its.toArray := p
    have hlt : i < its.toArray.size := by
      have := (List.getElem?_eq_some_iff.mp hu).1
      simpa using this
    refine wpAny_pyNext_enum_itemD (Draws.tuple (show X.A.in1.handled = none from I.ok.hd hc) it a hai its.toArray) he ⟨hit, pT⟩ hlt hne (by simp [hne, Ne.symm hae]) fun x' h' tk hP ho hs' hT hsz hk => ?_
    have ex : x' = u := by
      have h1 : its.toArray[i]? = some x' := hP
      rw [show its.toArray[i]? = some u by simpa using hu] at h1
      exact (Option.some.inj h1).symm
    subst ex
    refine ⟨_, rfl, wpAny_letOwnedTupleGo_enum (s := { s with heap := h', toks := tk + 1 }) ho fun h'' he' sb => ?_⟩
    have hT2 : h''.get? s.heap.objs.size = some { cls := .type "tuple", data := .seq #[.int i tk, x'] } := (sb.2 _ (Nat.ne_of_gt hel)).trans hT
    have new : ObjOk X.prog X.w (upd H s.heap.objs.size (.tup [.int (i : Nat), x])) h'' s.heap.objs.size (.tup [.int (i : Nat), x]) :=
      ⟨by show 2 ≤ sizeLine; decide, [.int i tk, x'], .cons ⟨_, rfl⟩ (.cons ru .nil), ⟨_, hT2, rfl, _, rfl⟩⟩
    have kk : ∀ b ob, b ∉ [e, it] → s.heap.get? b = some ob → h''.get? b = some ob := fun b ob hb q => (sb.2 b (fun z => hb (by simp [z]))).trans (hk b ob (fun z => hb (by simp [z])) (fun z => hb (by simp [z])) q)
    have I1 : Inv X pins σ (upd H s.heap.objs.size (.tup [.int (i : Nat), x])) { s with heap := h'', toks := tk + 1 } :=
      I.turnedNew (ch := [e, it]) kk hf (Nat.le_refl _) new
    refine ⟨.ref s.heap.objs.size, _, I1, rfl, ⟨_, x, rfl, I.hok.fresh (Nat.le_refl _), rfl, fun ys hy => by rw [I.tuple_inj hy hq]; exact hx⟩, ⟨⟨x', ?_⟩, hs'.1.at fun o q => (sb.2 it (Ne.symm hne)).trans q, hne, hai, hae⟩, fun b hb => ?_⟩
    · have e1 : ((i + 1 : Nat) : Int) = (i : Int) + 1 := by omega
      rw [e1]; exact he'
    · have hb' : b < s.heap.objs.size := by
        have e' : b = e ∨ b = it := by simpa using hb
        rcases e' with z | z
        · rw [z]; exact hel
        · rw [z]; exact hil
      rw [upd_ne (Nat.ne_of_lt hb')]
      exact (hf b hb).1
  done := by
    intro X hP hw hK hc i pins s σ H E I hf st hg
    subst hP hw hK
    obtain ⟨⟨old, he⟩, hit, hne, hai, hae⟩ := st
    obtain ⟨xs, hq, hx⟩ := hg
    obtain ⟨its, rv, p, hz⟩ := I.tuple hq
    obtain ⟨f0, f1, f2, f3, f4, f5⟩ := hf it (by simp)
    have hl := rv.length
    exact enumT_end (I.ok.hd hc) he hit (show s.heap.IsTuple a its.toArray from p) (by simp; omega) fun h' eb => ⟨rfl, I.turned (t' := s.toks) (fun b o hb q => eb b o hb q) f0 f1 f3 f4 f5⟩
  self := fun A i s Q E st h => let ⟨⟨_, he⟩, _⟩ := st; wpAny_pyIter_enum he h
def iEnumA (K : PySem.W.Frag) (ta : TA) : TI := fun σ H R => ta σ H fun vs H1 => ∃ a xs, vs = [.ref a] ∧ SqT K H1 a xs ∧ R (Iet K a) H1
theorem pi_enumA {X : Cx} {e : Expr} {ta : TA} {p pos tpos : Pos} {elts : List Expr} {kk : Nat} (hg : Gl X "enumerate") (hm : X.mg "enumerate" = none) (ha : PA X [e] ta) (hs : starEach [e] X.env = [(false, eval e X.env)] := by rfl) :
    PI X (.Tuple elts kk tpos) (.Call (.Name "enumerate" p) [e] [] pos) (iEnumA X.K ta) := by
  refine ⟨fun pins s σ H R I h => ?_⟩
  refine Call_ (ld_blt I hg hm boot_enumerate (PyProof.Rows.callWith_type1 (thn (ha.run pos pins s σ H _ I h) fun us s1 ⟨vs, H1, I1, r1, q1⟩ => ?_) hs rfl))
  obtain ⟨a, xs, ex, hq, q⟩ := q1
  subst ex
  cases r1 with
  | cons r rr =>
    cases rr
    cases r
    obtain ⟨its, rv, p', hz⟩ := I1.tuple hq
    have pT : s1.heap.IsTuple a its.toArray := p'
    obtain ⟨oa, hoa, _⟩ := id pT
    have ha' := Heap.lt_size hoa
    refine enum_begins1 (begins_tuple a its.toArray) pT fun h' he hit hsz hk => wpAny_pyIter_enum he ?_
    have I2 : Inv X pins σ H1 { s1 with heap := h' } := I1.kept (t' := s1.toks) hk
    refine ⟨s1.heap.objs.size + 1, [s1.heap.objs.size + 1, s1.heap.objs.size], _, _, H1, rfl, I2, turn_enumT a (s1.heap.objs.size + 1) s1.heap.objs.size, ⟨⟨.none, he⟩, ⟨_, hit, rfl, rfl⟩, Nat.succ_ne_self _, Nat.ne_of_lt ha', Nat.ne_of_lt (Nat.lt_succ_of_lt ha')⟩, fun b hb => ?_, q⟩
    have e' : b = s1.heap.objs.size + 1 ∨ b = s1.heap.objs.size := by simpa using hb
    have hle : s1.heap.objs.size ≤ b := by
      rcases e' with z | z
      · rw [z]; exact Nat.le_add_right _ _
      · rw [z]; exact Nat.le_refl _
    exact I1.fpOk hle (I1.hok.fresh hle)
/-- the turns of enumerate over a tuple that stands -/
theorem for_enumT {K : PySem.W.Frag} {a : Addr} {xs : List V} {g : TG} {tb : TS} {D : Ends} {σ : L2.St} {H : Hp} (Pv : Nat → L2.St → Hp → Prop) (h0 : Pv 0 σ H) (hT : ∀ i σ H, Pv i σ H → SqT K H a xs)
    (hs : ∀ i x σ H T, xs[i]? = some x → Pv i σ H → H T = none → g (.ref T) σ (upd H T (.tup [.int (i : Nat), x])) fun σ2 H2 => tb { D with nx := Pv (i + 1), ct := Pv (i + 1), bk := D.nx } σ2 H2) (hd : ∀ σ H, Pv xs.length σ H → D.nx σ H) :
    ∃ W : Nat → Nat → L2.St → Hp → Prop, (∃ m, W 0 m σ H) ∧ ∀ i m σ H, W i m σ H →
      ((Iet K a).stop i H ∧ D.nx σ H) ∨ ((Iet K a).go i H ∧ ∃ N : L2.St → Hp → Prop, (∀ σ' H', N σ' H' → ∃ m', m' < m ∧ W (i + 1) m' σ' H') ∧ ∀ x H', (Iet K a).yld i H x H' → g x σ H' fun σ2 H2 => tb { D with nx := N, ct := N, bk := D.nx } σ2 H2) := by
  refine ⟨fun i m σ H => m = xs.length - i ∧ i ≤ xs.length ∧ Pv i σ H, ⟨xs.length, by simp, Nat.zero_le _, h0⟩, ?_⟩
  rintro i m σ H ⟨rfl, hi, p⟩
  by_cases hlt : i < xs.length
  · have hx : xs[i]? = some xs[i] := List.getElem?_eq_getElem hlt
    refine .inr ⟨⟨xs, _, hT i σ H p, hx⟩, Pv (i + 1), fun σ' H' p' => ⟨xs.length - (i + 1), by omega, rfl, hlt, p'⟩, fun x H' y => ?_⟩
    obtain ⟨T, z, e, hn, e2, q⟩ := y
    subst e e2
    have := q xs (hT i σ H p)
    rw [hx] at this
    cases this
    exact hs i _ σ H T hx p hn
  · have e : i = xs.length := by omega
    subst e
    exact .inl ⟨⟨xs, hT _ σ H p, Nat.le_refl _⟩, hd σ H p⟩
end Bq
end

section
set_option maxRecDepth 100000
set_option maxHeartbeats 1000000
namespace Bq
open PySem PySem.Spec PyProof.Rows L2
/-! ### try .. except A as n .. except B .. -/
section
variable {X : Cx} {pins : List (Addr × Obj)} {s : Shared}
/-- the clauses that are left, none of them with a name, looked at one after another -/
theorem left_go {l : List (Value × (Addr → Value → Option Addr → TS))} {hds : List ExceptHandler} {Wout : WX} {D : Ends} {a : Addr} {B h3 : Heap} {sI s' : Shared} {σ' : L2.St} {H' : Hp} {cls : Value} {d : Option Addr} {oe3 : Obj} {vs3 : Array Value}
    (hs : X.stack = X.env :: X.outer) (hf : X.env.frame = some X.env.locals) (tk : Takes X Wout) (ok : X.Ok) (J : Inv X pins σ' H' sI) (nb : ∀ b o, sI.heap.get? b = some o → b ∉ frs X.stack → B.get? b = some o)
    (up : sI.heap.UpToSlots h3) (fl3 : HandSPX.FlyingZ B (X.env :: X.outer) a (Zc cls d) h3) (J3 : Inv X pins σ' H' { s' with heap := h3 }) (he3 : h3.get? a = some oe3) (hz3 : Zc cls d oe3) (hd3 : oe3.data = .fields vs3) (na : H' a = none) (os : s'.os = sI.os) (ag : AllBare s'.gens)
    (nL : a ≠ X.env.locals) (nF : a ∉ X.fs) (hk : HdsOk X hds l) (w : wMany X.K Wout D l cls d σ' H') : wpAny (model X.prog X.w) X.A (handleBy (.ref a) X.env hds) (SP X pins D) X.xe { s' with heap := h3 } := by
  have S3 := J3.suite he3 hd3 na nL nF
  induction hk with
  | nil =>
    refine wpAny_handleBy_nil ?_
    obtain ⟨k1, k2, k3, oe, vs, T, oT, ts', he, hz, hd, h1, hr⟩ := id fl3
    unfold PySem.passOn
    refine wpAny_bind (wpAny_field he hd h1 ?_)
    rw [if_neg (show ¬ ((Value.ref T == Value.none) = true) from by simp)]
    have fin : wpAny (model X.prog X.w) X.A (setFlight (.ref a) X.env.frame) (fun _ s4 => wpAny (model X.prog X.w) X.A (throw (.ref a) : Sem Flow) (SP X pins D) X.xe s4) X.xe { s' with heap := h3 } := by
      rw [hf]
      refine HandSPX.setFlight_upZ fl3 fun h4 hh4 up4 => wpAny_throw (tk _ _ ?_)
      exact ⟨a, B, sI, pins, σ', H', cls, d, rfl, J, nb, up.trans up4, .inr (.inr (by rw [hs]; exact hh4)), na, os, ag, w⟩
    first
      | exact wpAny_bind (wpAny_pure (wpAny_bind fin))
      | exact wpAny_bind fin
  | @cons x c ts b₀ suite np pos' hds2 l2 hc hsu r ih =>
    obtain ⟨b, hb1, hyes, hno⟩ := w
    refine wpAny_handleBy_cons (codeAny_handlers_test ?_) (by intro q; cases q)
    have LT : PySem.W.Looks (model X.prog X.w) h3 (typeOf (.ref a)) cls := fun A Q E s k q => wpAny_typeOf_ref (k _ _ he3) (by rw [hz3.1]; exact q)
    have LM := PySem.W.exm_one (M := model X.prog X.w) (J3.kIn) LT hb1
    have test : ∀ {Q : Value → Shared → Prop} {E : Value → Shared → Prop}, Q c { s' with heap := h3 } → wpAny (model X.prog X.w) (X.A.mark (some (.ref a))) (eval (.Name x np) X.env) Q E { s' with heap := h3 } := fun {Q E} q => by
      obtain ⟨hg, hdbg, hm | ⟨hm, hv, hnn⟩⟩ := hc
      · exact ld_glob (X := X.suite a ((a, oe3) :: (X.pn ++ pins))) S3 hg hm q hdbg
      · exact ld_blt (X := X.suite a ((a, oe3) :: (X.pn ++ pins))) S3 hg hm hv q hnn hdbg
    refine test (LM.here ?_)
    cases b with
    | true =>
      refine codeAny_handlers_suite ?_
      refine HandSPX.lands_againZ fl3 fun h4 fl4 up4 => ?_
      have J4 : Inv X pins σ' H' { s' with heap := h4 } := J.landed nb fl4.1 (up.trans up4) os ag
      obtain ⟨oe4, vs4, he4, hz4, hd4⟩ := fl4.there
      have S4 := J4.suite he4 hd4 na nL nF
      refine wpAny_mono ((hsu a oe4 cls d (X.pn ++ pins) hz4 ⟨_, hd4⟩).run [] _ _ H' _ S4 (hyes rfl a na)) (fun f s6 hsp => ?_) (fun _ _ z => False.elim z)
      cases f with
      | next =>
        obtain ⟨σ6, H6, S6, q6⟩ := hsp
        exact ⟨_, _, S6.unsuite ok, q6⟩
      | brk =>
        obtain ⟨σ6, H6, S6, q6⟩ := hsp
        exact ⟨_, _, S6.unsuite ok, q6⟩
      | cont =>
        obtain ⟨σ6, H6, S6, q6⟩ := hsp
        exact ⟨_, _, S6.unsuite ok, q6⟩
      | ret u =>
        obtain ⟨v6, σ6, H6, S6, r6, q6⟩ := hsp
        exact ⟨_, _, _, S6.unsuite ok, r6, q6⟩
    | false =>
      show wpAny _ X.A (handleBy (.ref a) X.env hds2) _ _ _
      exact ih (hno rfl)
end
/-- what 'except x as n' and the clauses behind it wish -/
def wAsMany (K : PySem.W.Frag) (c : Value) (i : Nat) (ts : Addr → Value → Option Addr → TS) (l : List (Value × (Addr → Value → Option Addr → TS))) (Wout : WX) (D : Ends) : WX := fun cls d σ H =>
  ∃ b, PySem.W.exmOne K cls c = some b ∧ (b = true → ∀ a, H a = none → ts a cls d { nx := fun σ' H' => D.nx (σ'.set i none) H', rt := D.rt, bk := fun σ' H' => D.bk (σ'.set i none) H', ct := fun σ' H' => D.ct (σ'.set i none) H' } (σ.set i (some (.ref a))) H) ∧
    (b = false → wMany K Wout D l cls d σ H)
section
variable {X : Cx} {x n : Str} {c : Value} {i : Nat} {body suite : List Stmt} {b₀ : Stmt} {np pos pos' : Pos} {tb : WX → TS} {ts : Addr → Value → Option Addr → TS} {Wout : WX} {hds : List ExceptHandler} {l : List (Value × (Addr → Value → Option Addr → TS))}
theorem ps_try_asMany (hs : X.stack = X.env :: X.outer) (hf : X.env.frame = some X.env.locals) (hN : X.N.Nodup) (hi : X.N[i]? = some n) (hln : X.env.kindOf n = some .local) (hc : Names X x c) (tk : Takes X Wout)
    (hb : ∀ (W : WX) (pn : List (Addr × Obj)) (xe : Value → Shared → Prop), Takes (X.tr pn xe) W → PassesOwn (model X.prog X.w) X.A X.env xe → PSs (X.tr pn xe) body (tb W))
    (hsu : ∀ (a : Addr) (oe : Obj) (cls : Value) (d : Option Addr) (pn : List (Addr × Obj)), Zc cls d oe → (∃ vs, oe.data = .fields vs) → PSs (X.suite a ((a, oe) :: pn)) (b₀ :: suite) (ts a cls d)) (hh : HdsOk X hds l) :
    PS X (.Try body (.ExceptHandler (some (.Name x np)) (some n) (b₀ :: suite) pos' :: hds) [] [] pos) (fun D σ H => tb (wAsMany X.K c i ts l Wout D) D σ H) := by
  refine ⟨fun pins s σ H D I h => ?_⟩
  have ok := I.ok
  have hfr : X.A.frames = some (X.env :: X.outer) := by rw [ok.frames, hs]
  have hloc : Loc X.env.scope n := .inl hln
  refine wpAny_Try_except ?_
  refine wpAny_mono ((hb (wAsMany X.K c i ts l Wout D) (X.pn ++ pins) (fun e s₁ => wpAny (model X.prog X.w) X.A (noteFrame e X.env) (fun _ s₂ => wpAny (model X.prog X.w) X.A (setFlight e none) (fun _ s₃ =>
    wpAny (model X.prog X.w) X.A (handleBy e X.env (.ExceptHandler (some (.Name x np)) (some n) (b₀ :: suite) pos' :: hds)) (SP X pins D) X.xe s₃) X.xe s₂) X.xe s₁) (fun u s' xx => ?_) PassesOwn.looking).run [] s σ H D (I.toTry _) h) (fun f s1 hsp => ?_) (fun e s1 he => he)
  · obtain ⟨a, B, sI, pins', σ', H', cls, d, rfl, J', nb, up, sky, na, os, ag, b, hb1, hyes, hno⟩ := xx
    have J : Inv X pins σ' H' sI := J'.ofTry ok
    have sky' : Sky B (X.env :: X.outer) a (Zc cls d) X.env.locals s'.heap := by rw [← hs]; exact sky
    show wpAny (model X.prog X.w) X.A (noteFrame (.ref a) X.env) _ _ _
    refine Sky.land Zc.steady hfr hf sky' fun h3 fl3 up3 => ?_
    have J3 : Inv X pins σ' H' { s' with heap := h3 } := J.landed nb fl3.1 (up.trans up3) os ag
    obtain ⟨oe3, vs3, he3, hz3, hd3⟩ := fl3.there
    have nfr : a ∉ frs (X.env :: X.outer) := fun hm => by
      obtain ⟨_, o', e', hnf⟩ := fl3.2.2.1.mem hm
      rw [he3] at e'; cases e'
      exact hnf _ hd3
    have nL : a ≠ X.env.locals := fun z => nfr (List.mem_filterMap.mpr ⟨X.env, List.mem_cons_self, by rw [hf, z]⟩)
    have nF : a ∉ X.fs := fun hm => by
      obtain ⟨e, he, q⟩ := List.mem_filterMap.mp hm
      exact nfr (List.mem_filterMap.mpr ⟨e, List.mem_cons_of_mem _ he, q⟩)
    have S3 := J3.suite he3 hd3 na nL nF
    refine wpAny_handleBy_cons (codeAny_handlers_test ?_) (by intro q; cases q)
    have LT : PySem.W.Looks (model X.prog X.w) h3 (typeOf (.ref a)) cls := fun A Q E s k q => wpAny_typeOf_ref (k _ _ he3) (by rw [hz3.1]; exact q)
    have LM := PySem.W.exm_one (M := model X.prog X.w) (J3.kIn) LT hb1
    have test : ∀ {Q : Value → Shared → Prop} {E : Value → Shared → Prop}, Q c { s' with heap := h3 } → wpAny (model X.prog X.w) (X.A.mark (some (.ref a))) (eval (.Name x np) X.env) Q E { s' with heap := h3 } := fun {Q E} q => by
      obtain ⟨hg, hdbg, hm | ⟨hm, hv, hnn⟩⟩ := hc
      · exact ld_glob (X := X.suite a ((a, oe3) :: (X.pn ++ pins))) S3 hg hm q hdbg
      · exact ld_blt (X := X.suite a ((a, oe3) :: (X.pn ++ pins))) S3 hg hm hv q hnn hdbg
    refine test (LM.here ?_)
    cases b with
    | true =>
      refine codeAny_handlers_suite_as ?_
      refine HandSPX.lands_againZ fl3 fun h4 fl4 up4 => ?_
      have J4 : Inv X pins σ' H' { s' with heap := h4 } := J.landed nb fl4.1 ((up.trans up3).trans up4) os ag
      obtain ⟨oe4, vs4, he4, hz4, hd4⟩ := fl4.there
      have S4 := J4.suite he4 hd4 na nL nF
      refine store_ok (X := X.suite a ((a, oe4) :: (X.pn ++ pins))) (v := .ref a) S4 hN hi hloc rfl (fun s5 S5 => ?_) (.inr hln)
      refine wpAny_mono ((hsu a oe4 cls d (X.pn ++ pins) hz4 ⟨_, hd4⟩).run [] s5 _ H' _ S5 (hyes rfl a na)) (fun f s6 hsp => ?_) (fun _ _ z => False.elim z)
      have end_ : ∀ {σ6 : L2.St} {H6 : Hp} {Q : Shared → Prop}, Inv (X.suite a ((a, oe4) :: (X.pn ++ pins))) [] σ6 H6 s6 → (∀ s7, Inv X pins (σ6.set i none) H6 s7 → Q s7) →
          wpAny (model X.prog X.w) X.A (do bindName X.env n .none; unbindBehindTheSuite X.env n pos') (fun _ s7 => Q s7) X.xe s6 := fun {σ6 H6 Q} S6 hq => gone_ok (S6.unsuite ok) hN hi hln hq
      cases f with
      | next =>
        obtain ⟨σ6, H6, S6, q6⟩ := hsp
        exact end_ S6 fun s7 J7 => ⟨_, _, J7, q6⟩
      | brk =>
        obtain ⟨σ6, H6, S6, q6⟩ := hsp
        exact end_ S6 fun s7 J7 => ⟨_, _, J7, q6⟩
      | cont =>
        obtain ⟨σ6, H6, S6, q6⟩ := hsp
        exact end_ S6 fun s7 J7 => ⟨_, _, J7, q6⟩
      | ret u =>
        obtain ⟨v6, σ6, H6, S6, r6, q6⟩ := hsp
        exact end_ S6 fun s7 J7 => ⟨_, _, _, J7, r6, q6⟩
    | false =>
      show wpAny _ X.A (handleBy (.ref a) X.env hds) _ _ _
      exact left_go hs hf tk ok J nb (up.trans up3) fl3 J3 he3 hz3 hd3 na os ag nL nF hh (hno rfl)
  · cases f with
    | next =>
      obtain ⟨σ', H', J', q⟩ := hsp
      exact wpAny_execs_nil ⟨σ', H', J'.ofTry ok, q⟩
    | brk =>
      obtain ⟨σ', H', J', q⟩ := hsp
      exact ⟨σ', H', J'.ofTry ok, q⟩
    | cont =>
      obtain ⟨σ', H', J', q⟩ := hsp
      exact ⟨σ', H', J'.ofTry ok, q⟩
    | ret u =>
      obtain ⟨v, σ', H', J', r, q⟩ := hsp
      exact ⟨v, σ', H', J'.ofTry ok, r, q⟩
end
end Bq
end

section
set_option maxRecDepth 100000
set_option maxHeartbeats 1000000
namespace Bq
open PySem PySem.Spec PyProof.Rows L2
/-! ### own classes: fields, methods, their making -/
def tFl (C : Addr) (ta : TE) (f : Str) : TE := fun σ H Q => ta σ H fun x H1 => ∃ a dx fs v, x = .ref a ∧ H1 a = some (.ins C dx fs) ∧ fs.lookup f = some v ∧ Q v H1
def tSFl (C : Addr) (ta tv : TE) (f : Str) : TS := fun D σ H => tv σ H fun y H1 => ta σ H1 fun x H2 => ∃ a dx fs, x = .ref a ∧ H2 a = some (.ins C dx fs) ∧ fs.length < 1000 ∧ D.nx σ (upd H2 a (.ins C dx (putF f y fs)))
def tSAg (C : Addr) (ta tv : TE) (rd : V → V → Hp → VK → Prop) (f : Str) : TS := fun D σ H => ta σ H fun x H1 => ∃ a dx fs v, x = .ref a ∧ H1 a = some (.ins C dx fs) ∧ fs.lookup f = some v ∧
  tv σ H1 fun y H2 => rd v y H2 fun z H3 => ∃ dx' fs', H3 a = some (.ins C dx' fs') ∧ fs'.length < 1000 ∧ D.nx σ (upd H3 a (.ins C dx' (putF f z fs')))
def tMth (C : Addr) (m : Str) (sp : Sp) (E : XK) (ta : TE) (t : TA) : TE := fun σ H Q => ta σ H fun x H1 => ∃ a dx fs, x = .ref a ∧ H1 a = some (.ins C dx fs) ∧ fs.lookup m = none ∧ t σ H1 fun vs H2 => sp (x :: vs) H2 Q E
def tMkI (C : Addr) (sp : Sp) (E : XK) (t : TA) : TE := fun σ H Q => t σ H fun vs H1 => ∀ x dx, H1 x = none → H1 dx = none → dx ≠ x → sp (.ref x :: vs) (upd (upd H1 dx (.own x)) x (.ins C dx [])) (fun v H2 => v = .non ∧ Q (.ref x) H2) E
section
variable {X : Cx} {CX : CXT} {k : Nat} {C : Addr} {m x : Str} {ps : List Str} {sp : Sp} {E : XK} {e o value : Expr} {es : List Expr} {t : TA} {ta tv : TE} {p pos apos pos' tpos : Pos} {f : Str}
theorem pe_fl (c : Cls X.K C) (n : NoAttr X.K C f) (he : PE X e ta) (hb : attributeBase e f X.env (eval e X.env) = eval e X.env := by rfl) : PE X (.Attribute e f pos) (tFl C ta f) := by
  refine ⟨fun pins s σ H Q I h => ?_⟩
  refine attr_of hb (thn (he.run pins s σ H _ I h) fun u s1 ⟨x, H1, I1, rx, a, dx, fs, v, ex, ea, l, q⟩ => ?_)
  subst ex
  obtain rfl : u = Value.ref a := rx
  exact getattr_ok I1 ea c n l fun u' s2 I2 ru => ⟨v, H1, I2, ru, q⟩
theorem ps_fl (c : Cls X.K C) (n : NoAttr X.K C f) (ha : PE X o ta) (hv : PE X value tv) (hs : swapsWith value (some (.Attribute o f pos')) pos.line X.env = pure false := by rfl) : PS X (.Assign [.Attribute o f pos'] value pos) (tSFl C ta tv f) := by
  refine ⟨fun pins s σ H D I h => ?_⟩
  refine plainObj_wpAny_Assign_Attribute (thn (hv.run pins s σ H _ I h) fun u s1 ⟨y, H1, I1, ry, q⟩ => thn (ha.run pins s1 σ H1 _ I1 q) fun ov s2 ⟨x, H2, I2, rx, a, dx, fs, ex, ea, l, q2⟩ => ?_) hs
  subst ex
  obtain rfl : ov = Value.ref a := rx
  exact setattr_ok I2 ea c n l ry fun s3 I3 => ⟨σ, _, I3, q2⟩
theorem ps_flaug {op : Operator} {rd : V → V → Hp → VK → Prop} (c : Cls X.K C) (n : NoAttr X.K C f) (ha : PE X o ta) (hv : PE X value tv) (hop : InOp X op rd) : PS X (.AugAssign (.Attribute o f tpos) op value pos) (tSAg C ta tv rd f) := by
  refine ⟨fun pins s σ H D I h => ?_⟩
  refine wpAny_AugAssign_AttributeAny (thn (ha.run pins s σ H _ I h) fun ov s1 ⟨x, H1, I1, rx, a, dx, fs, v, ex, ea, l, q⟩ => ?_)
  subst ex
  obtain rfl : ov = Value.ref a := rx
  refine getattr_ok I1 ea c n l fun u s2 I2 ru => thn (hv.run pins s2 σ H1 _ I2 q) fun w3 s3 ⟨y, H2, I3, ry, q3⟩ => thn (hop pins s3 σ H2 v y u w3 _ I3 ru ry q3) fun w4 s4 ⟨z, H3, I4, rz, dx', fs', ea', l', q4⟩ => ?_
  exact setattr_ok I4 ea' c n l' rz fun s5 I5 => ⟨σ, _, I5, q4⟩
theorem pe_mth {pl : Sem Bool} (F : Mth X.prog X.w X.K X.mg X.base CX k C m ps sp) (c : Cls X.K C) (hr : Room k X.A) (hx : Passes CX X E) (he : PE X o ta) (ha : PA X (e :: es) t)
    (hst : starEach (e :: es) X.env = (false, eval e X.env) :: starEach es X.env := by rfl) (hpl : (backTo pos (starEach es X.env)).any (·.1) = false := by rfl)
    (ht : eval (.Call (.Attribute o m apos) (e :: es) [] pos) X.env = (do
      let ov ← eval o X.env
      standAt apos.atName
      let (f, first) ← holding [ov] (getMethod ov m pl)
      callWith pos f first (backTo pos (starEach (e :: es) X.env)) (backToKw pos (keywordEach [] X.env))) := by rfl) :
    PE X (.Call (.Attribute o m apos) (e :: es) [] pos) (tMth C m sp E ta t) := by
  obtain ⟨f, fd, G, b, hm⟩ := F
  have h := pe_meth (pl := pl) (E := E) (t := t) (apos := apos) (pos := pos) he c hm G hr b .nil hx ha hst hpl ht
  have e1 : tMeth C m sp [] E ta t = tMth C m sp E ta t := by
    funext σ H Q
    unfold tMeth tMth
    simp only [List.append_nil]
  rw [← e1]
  exact h
theorem pe_mth0 {pl : Sem Bool} (F : Mth X.prog X.w X.K X.mg X.base CX k C m ps sp) (c : Cls X.K C) (hr : Room k X.A) (hx : Passes CX X E) (he : PE X o ta)
    (ht : eval (.Call (.Attribute o m apos) [] [] pos) X.env = (do
      let ov ← eval o X.env
      standAt apos.atName
      let (f, first) ← holding [ov] (getMethod ov m pl)
      callWith pos f first (backTo pos (starEach [] X.env)) (backToKw pos (keywordEach [] X.env))) := by rfl) :
    PE X (.Call (.Attribute o m apos) [] [] pos) (tMth C m sp E ta tNil) := by
  obtain ⟨f, fd, G, b, hm⟩ := F
  have h := pe_meth0 (pl := pl) (E := E) (apos := apos) (pos := pos) he c hm G hr b .nil hx ht
  have e1 : tMeth C m sp [] E ta tNil = tMth C m sp E ta tNil := by
    funext σ H Q
    unfold tMeth tMth
    simp only [List.append_nil]
  rw [← e1]
  exact h
theorem pe_mkI (F : Ini X.prog X.w X.K X.mg X.base CX k x ps sp) (hC : X.mg x = some (.ref C)) (hr : Room (k + 1) X.A) (hg : Gl X x) (hx : Passes CX X E) (ha : PA X (e :: es) t) (hdb : (x == ("__debug__" : Str)) = false := by decide)
    (he : starEach (e :: es) X.env = (false, eval e X.env) :: starEach es X.env := by rfl) (hpl : (backTo pos (starEach es X.env)).any (·.1) = false := by rfl) :
    PE X (.Call (.Name x p) (e :: es) [] pos) (tMkI C sp E t) := by
  obtain ⟨C', f, fd, G, b, M, m⟩ := F
  have : C' = C := by
    rw [hC] at m
    cases m
    rfl
  subst this
  have h := pe_make (p := p) (pos := pos) (E := E) M G hr hg m b .nil hx ha hdb he hpl
  have e1 : tMake C' sp [] E t = tMkI C' sp E t := by
    funext σ H Q
    unfold tMake tMkI
    simp only [List.append_nil]
  rw [← e1]
  exact h
/-! ### raise Fault('..'), raise Long() -/
/-- Fault(text): the error with its own dict -/
def MkF (P : Program) (w : World) (K : PySem.W.Frag) (mg : Str → Option Value) (base : Heap) : Prop :=
  ∀ (X : Cx) (k j : Nat) (z : Str) (p pos p2 : Pos), X.prog = P → X.w = w → X.K = K → X.mg = mg → X.base = base → Room k X.A → 2 ≤ k → z.length ≤ 1000 → Gl X "Fault" →
    PMk X (.Call (.Name "Fault" p) [.Constant (.str z) j p2] [] pos) (fun _ H Q => ∀ d H1, H d = none → Ch K [] H H1 → H1 d = some (.xd [("word", .str z)]) → Q (.ref (He.ga K "Fault")) (some d) H1)
def MkL (P : Program) (w : World) (K : PySem.W.Frag) (mg : Str → Option Value) (base : Heap) : Prop :=
  ∀ (X : Cx) (p pos : Pos), X.prog = P → X.w = w → X.K = K → X.mg = mg → X.base = base → Gl X "Long" →
    PMk X (.Call (.Name "Long" p) [] [] pos) (fun _ H Q => Q (.ref (He.ga K "Long")) none H)
def tRsF (K : PySem.W.Frag) (E : XK) (z : Str) : TS := fun _ _ H => ∀ d H1, H d = none → Ch K [] H H1 → H1 d = some (.xd [("word", .str z)]) → E (.ref (He.ga K "Fault")) (some d) H1
def tRsL (K : PySem.W.Frag) (E : XK) : TS := fun _ _ H => E (.ref (He.ga K "Long")) none H
theorem ps_rsF {z : Str} {j : Nat} {p2 : Pos} (M : MkF X.prog X.w X.K X.mg X.base) (hr : Room k X.A) (hk : 2 ≤ k) (hc : X.calm = true) (tk : Takes X (fun cls d _ H => E cls d H)) (hg : Gl X "Fault") (hz : z.length ≤ 1000 := by decide +kernel) :
    PS X (.Raise (some (.Call (.Name "Fault" p) [.Constant (.str z) j p2] [] pos)) none pos') (tRsF X.K E z) := ps_raise hc tk (M X k j z p pos p2 rfl rfl rfl rfl rfl hr hk hz hg)
theorem ps_rsL (M : MkL X.prog X.w X.K X.mg X.base) (hc : X.calm = true) (tk : Takes X (fun cls d _ H => E cls d H)) (hg : Gl X "Long") :
    PS X (.Raise (some (.Call (.Name "Long" p) [] [] pos)) none pos') (tRsL X.K E) := ps_raise hc tk (M X p pos rfl rfl rfl rfl rfl hg)
end
/-! ### steps of a reading -/
section
variable {v : V} {K : PySem.W.Frag} {C : Addr} {ta tv : TE} {t : TA} {σ : L2.St} {H : Hp} {Q : VK} {D : L2.Ends} {f m : Str} {sp : Sp} {E : XK}
theorem g_fl0 (h : ta σ H fun x H1 => ∃ a dx fs v, x = .ref a ∧ H1 a = some (.ins C dx fs) ∧ fs.lookup f = some v ∧ Q v H1) : tFl C ta f σ H Q := h
theorem g_fl {R : V → Prop} {a dx : Addr} {fs : List (Str × V)} {v : V} (e : H a = some (.ins C dx fs)) (l : fs.lookup f = some v) (q : R v) : ∃ a' dx' fs' v', V.ref a = .ref a' ∧ H a' = some (.ins C dx' fs') ∧ fs'.lookup f = some v' ∧ R v' := ⟨a, dx, fs, v, rfl, e, l, q⟩
theorem g_sfl0 (h : tv σ H fun y H1 => ta σ H1 fun x H2 => ∃ a dx fs, x = .ref a ∧ H2 a = some (.ins C dx fs) ∧ fs.length < 1000 ∧ D.nx σ (upd H2 a (.ins C dx (putF f y fs)))) : tSFl C ta tv f D σ H := h
theorem g_sag0 {rd : V → V → Hp → VK → Prop} (h : ta σ H fun x H1 => ∃ a dx fs v, x = .ref a ∧ H1 a = some (.ins C dx fs) ∧ fs.lookup f = some v ∧
  tv σ H1 fun y H2 => rd v y H2 fun z H3 => ∃ dx' fs', H3 a = some (.ins C dx' fs') ∧ fs'.length < 1000 ∧ D.nx σ (upd H3 a (.ins C dx' (putF f z fs')))) : tSAg C ta tv rd f D σ H := h
theorem g_mth0 (h : ta σ H fun x H1 => ∃ a dx fs, x = .ref a ∧ H1 a = some (.ins C dx fs) ∧ fs.lookup m = none ∧ t σ H1 fun vs H2 => sp (x :: vs) H2 Q E) : tMth C m sp E ta t σ H Q := h
theorem g_mth {R : Prop} {a dx : Addr} {fs : List (Str × V)} (e : H a = some (.ins C dx fs)) (l : fs.lookup m = none) (q : R) : ∃ a' dx' fs', V.ref a = .ref a' ∧ H a' = some (.ins C dx' fs') ∧ fs'.lookup m = none ∧ R := ⟨a, dx, fs, rfl, e, l, q⟩
theorem g_sfl {R : Hp → Prop} {a dx : Addr} {fs fs' : List (Str × V)} (e : H a = some (.ins C dx fs)) (l : fs.length < 1000) (pf : putF f v fs = fs') (q : R (upd H a (.ins C dx fs'))) : ∃ a' dx' fs'', V.ref a = .ref a' ∧ H a' = some (.ins C dx' fs'') ∧ fs''.length < 1000 ∧ R (upd H a' (.ins C dx' (putF f v fs''))) := ⟨a, dx, fs, rfl, e, l, pf ▸ q⟩
theorem g_mkI {t : TA} (h : t σ H fun vs H1 => ∀ x dx, H1 x = none → H1 dx = none → dx ≠ x → sp (.ref x :: vs) (upd (upd H1 dx (.own x)) x (.ins C dx [])) (fun v H2 => v = .non ∧ Q (.ref x) H2) E) : tMkI C sp E t σ H Q := h
end
/-! ### what is one's own in the heap -/
structure Own (K : PySem.W.Frag) (H0 H : Hp) (S : List (Addr × HO)) : Prop where
  c : Ch K [] H0 H
  h : ∀ p ∈ S, H p.1 = some p.2
  f : ∀ p ∈ S, H0 p.1 = none
  nd : (S.map (·.1)).Nodup
section
variable {K : PySem.W.Frag} {H0 H H' : Hp} {S S' l1 l2 : List (Addr × HO)} {a p : Addr} {o u : HO}
theorem Own.ch (w : Own K H0 H S) (c : Ch K [] H H') : Own K H0 H' S := ⟨w.c.trans c, fun p hp => c.up _ _ (w.h p hp) (by simp), w.f, w.nd⟩
theorem Own.sub (w : Own K H0 H S) (h : S'.Sublist S) : Own K H0 H S' := ⟨w.c, fun p hp => w.h p (h.subset hp), fun p hp => w.f p (h.subset hp), w.nd.sublist (h.map _)⟩
theorem Own.perm (w : Own K H0 H S) (h : S.Perm S') : Own K H0 H S' := ⟨w.c, fun p hp => w.h p (h.mem_iff.mpr hp), fun p hp => w.f p (h.mem_iff.mpr hp), (h.map _).nodup_iff.mp w.nd⟩
theorem Own.new (w : Own K H0 H S) (n : H p = none) (c : Ch K [] H H') (e : H' p = some o) : Own K H0 H' ((p, o) :: S) := by
  refine ⟨w.c.trans c, fun q hq => ?_, fun q hq => ?_, ?_⟩
  · rcases List.mem_cons.mp hq with rfl | hq
    · exact e
    · exact c.up _ _ (w.h q hq) (by simp)
  · rcases List.mem_cons.mp hq with rfl | hq
    · exact w.c.free n (by simp)
    · exact w.f q hq
  · rw [List.map_cons, List.nodup_cons]
    refine ⟨fun hm => ?_, w.nd⟩
    obtain ⟨q, hq, e2⟩ := List.mem_map.mp hm
    have := w.h q hq
    rw [e2, n] at this
    cases this
theorem Own.set (w : Own K H0 H (l1 ++ (a, u) :: l2)) (c : Ch K [a] H H') (e : H' a = some o) : Own K H0 H' (l1 ++ (a, o) :: l2) := by
  have nd := w.nd
  rw [List.map_append, List.map_cons] at nd
  have na : ∀ q ∈ l1 ++ l2, q.1 ≠ a := fun q hq z => by
    have h1 := (List.nodup_append.mp nd).2.1
    have h2 := (List.nodup_append.mp nd).2.2
    rcases List.mem_append.mp hq with hq | hq
    · exact h2 q.1 (List.mem_map.mpr ⟨q, hq, rfl⟩) a (List.mem_cons_self ..) z
    · exact (List.nodup_cons.mp h1).1 (List.mem_map.mpr ⟨q, hq, z⟩)
  refine ⟨⟨fun b o' h n => c.up _ _ (w.c.up _ _ h n) (fun z => ?_), w.c.kt.trans c.kt⟩, fun q hq => ?_, fun q hq => ?_, ?_⟩
  · have hb : b = a := by simpa using z
    have := w.f (a, u) (by simp)
    rw [hb] at h
    rw [h] at this
    cases this
  · by_cases hqa : q = (a, o)
    · rw [hqa]; exact e
    · have hq' : q ∈ l1 ++ l2 := by
        rcases List.mem_append.mp hq with h | h
        · exact List.mem_append.mpr (.inl h)
        · rcases List.mem_cons.mp h with h | h
          · exact absurd h hqa
          · exact List.mem_append.mpr (.inr h)
      refine c.up _ _ (w.h q ?_) (by simpa using na q hq')
      rcases List.mem_append.mp hq' with h | h
      · exact List.mem_append.mpr (.inl h)
      · exact List.mem_append.mpr (.inr (List.mem_cons_of_mem _ h))
  · by_cases hqa : q = (a, o)
    · rw [hqa]; exact w.f (a, u) (by simp)
    · refine w.f q ?_
      rcases List.mem_append.mp hq with h | h
      · exact List.mem_append.mpr (.inl h)
      · rcases List.mem_cons.mp h with h | h
        · exact absurd h hqa
        · exact List.mem_append.mpr (.inr (List.mem_cons_of_mem _ h))
  · rw [List.map_append, List.map_cons]
    exact nd
theorem Own.wr (w : Own K H0 H (l1 ++ (a, u) :: l2)) (ht : notT u = true) : Own K H0 (upd H a o) (l1 ++ (a, o) :: l2) := w.set (Ch.wr (w.h (a, u) (by simp)) ht (by simp)) upd_same
theorem Own.at_ (w : Own K H0 H (l1 ++ (a, u) :: l2)) : H a = some u := w.h (a, u) (by simp)
end
end Bq
end

section
set_option maxRecDepth 100000
set_option maxHeartbeats 1000000
namespace Bq
open PySem PySem.Spec PyProof.Rows L2
/-! ### o.m() that may raise, in a try -/
def tMthS (C : Addr) (m : Str) (sp : Sp) (E : L2.St → XK) (ta : TE) : TE := fun σ H Q => ta σ H fun x H1 => ∃ a dx fs, x = .ref a ∧ H1 a = some (.ins C dx fs) ∧ fs.lookup m = none ∧ sp [x] H1 Q (E σ)
section
variable {X : Cx} {CX : CXT} {k : Nat} {C : Addr} {m : Str} {ps : List Str} {sp : Sp} {E : L2.St → XK} {o : Expr} {ta : TE} {pos apos : Pos}
theorem pe_mth0S {pl : Sem Bool} (F : Mth X.prog X.w X.K X.mg X.base CX k C m ps sp) (c : Cls X.K C) (hr : Room k X.A) (hx : ∀ σ, PassesAt CX X σ (E σ)) (he : PE X o ta)
    (ht : eval (.Call (.Attribute o m apos) [] [] pos) X.env = (do
      let ov ← eval o X.env
      standAt apos.atName
      let (f, first) ← holding [ov] (getMethod ov m pl)
      callWith pos f first (backTo pos (starEach [] X.env)) (backToKw pos (keywordEach [] X.env))) := by rfl) :
    PE X (.Call (.Attribute o m apos) [] [] pos) (tMthS C m sp E ta) := by
  obtain ⟨f, fd, G, b, hm⟩ := F
  refine ⟨fun pins s σ H Q I h => ?_⟩
  refine PySem.W.methodCall_KW (pl := pl) (thn (he.run pins s σ H _ I h) fun u s1 ⟨x, H1, I1, rx, a, dx, fs, ex, ea, l, q⟩ => ?_) ht
  subst ex
  obtain rfl : u = Value.ref a := rx
  refine getmeth_ok I1 ea c hm l ?_
  exact PySem.W.callWith_K0 (first := [.ref a]) I1.kIn hm.kp (run_fnS (us := [.ref a]) (vs := [.ref a]) G hr b (hx σ) I1 (.cons rfl .nil) q)
end
theorem g_mthS0 {C : Addr} {m : Str} {sp : Sp} {E : L2.St → XK} {ta : TE} {σ : L2.St} {H : Hp} {Q : VK} (h : ta σ H fun x H1 => ∃ a dx fs, x = .ref a ∧ H1 a = some (.ins C dx fs) ∧ fs.lookup m = none ∧ sp [x] H1 Q (E σ)) : tMthS C m sp E ta σ H Q := h
end Bq
end

section
set_option maxRecDepth 100000
set_option maxHeartbeats 1000000
namespace Bq
open PySem
/-! ### what a program does, step by step -/
def innerP : Pt → List Pt
  | .num _ => []
  | .name _ => []
  | .bin _ a b => [a, b]
  | .nt a => [a]
  | .get a => [a]
  | .call _ ps => ps
def innerD : Dd → List Pt
  | .set _ p => [p]
  | .put c p => [c, p]
  | .say p => [p]
  | .ite p _ _ => [p]
  | .whl p _ => [p]
  | .ret p => [p]
  | .dop p => [p]
mutual
inductive DS where
  | nil
  | back (ns : List Int) (r : VS)
  | body (b : List Dd) (i : Nat) (r : DS)
  | again (p : Pt) (b : List Dd) (r : DS)
inductive VS where
  | part (t : Pt) (ws : List Int) (r : VS)
  | deed (d : Dd) (ws : List Int) (r : DS)
end
inductive Ctl where
  | look (p : Pt) (s : VS)
  | give (v : Int) (s : VS)
  | go (s : DS)
  | ret (v : Int) (s : DS)
inductive En where
  | worth (v : Int)
  | fault (w : Str)
  | long
structure St where
  said : List Int
  cells : List Int
  fuel : Nat
  calls : Nat
  names : List Int
  c : Ctl
structure Fi where
  said : List Int
  cells : List Int
  en : En
def ringI (n : Int) : Int := (n + 1000000000) % 2000000000 - 1000000000
/-- a pair's worth; none: the fault over -/
def pairI : Op → Int → Int → Option Int
  | .add, a, b => some (ringI (a + b))
  | .take, a, b => some (ringI (a - b))
  | .times, a, b => some (ringI (a * b))
  | .over, a, b => if b = 0 then none else some (ringI (Int.fdiv a b))
  | .rest, a, b => if b = 0 then none else some (Int.fmod a b)
  | .less, a, b => some (if a < b then 1 else 0)
  | .same, a, b => some (if a = b then 1 else 0)
def popB : DS → DS
  | .nil => .nil
  | .back ns r => .back ns r
  | .body _ _ r => popB r
  | .again _ _ r => popB r
/-- what a fun that is called begins with -/
def handed (fn : Fu) (ws : List Int) : List Int := ws ++ List.replicate (fn.nm - fn.ps) 0
inductive Step (fs : List Fu) : St → St → Prop where
  | num {sd ce fu ca nm n s} : Step fs ⟨sd, ce, fu, ca, nm, .look (.num n) s⟩ ⟨sd, ce, fu, ca, nm, .give n s⟩
  | name {sd ce fu ca nm i v s} (h : nm[i]? = some v) : Step fs ⟨sd, ce, fu, ca, nm, .look (.name i) s⟩ ⟨sd, ce, fu, ca, nm, .give v s⟩
  | first {sd ce fu ca nm p q s} (h : (innerP p)[0]? = some q) : Step fs ⟨sd, ce, fu, ca, nm, .look p s⟩ ⟨sd, ce, fu, ca, nm, .look q (.part p [] s)⟩
  | next {sd ce fu ca nm v p ws q s} (h : (innerP p)[ws.length + 1]? = some q) : Step fs ⟨sd, ce, fu, ca, nm, .give v (.part p ws s)⟩ ⟨sd, ce, fu, ca, nm, .look q (.part p (ws ++ [v]) s)⟩
  | nextD {sd ce fu ca nm v d ws q s} (h : (innerD d)[ws.length + 1]? = some q) : Step fs ⟨sd, ce, fu, ca, nm, .give v (.deed d ws s)⟩ ⟨sd, ce, fu, ca, nm, .look q (.deed d (ws ++ [v]) s)⟩
  | bin {sd ce fu ca nm a b op x y v s} (h : pairI op a b = some v) : Step fs ⟨sd, ce, fu, ca, nm, .give b (.part (.bin op x y) [a] s)⟩ ⟨sd, ce, fu, ca, nm, .give v s⟩
  | nt {sd ce fu ca nm a x s} : Step fs ⟨sd, ce, fu, ca, nm, .give a (.part (.nt x) [] s)⟩ ⟨sd, ce, fu, ca, nm, .give (if a = 0 then 1 else 0) s⟩
  | get {sd ce fu ca nm a x v s} (h0 : 0 ≤ a) (h : ce[a.toNat]? = some v) : Step fs ⟨sd, ce, fu, ca, nm, .give a (.part (.get x) [] s)⟩ ⟨sd, ce, fu, ca, nm, .give v s⟩
  | call0 {sd ce fu ca nm f fn s} (hf : fs[f]? = some fn) (hc : ca < 60) : Step fs ⟨sd, ce, fu + 1, ca, nm, .look (.call f []) s⟩ ⟨sd, ce, fu, ca + 1, handed fn [], .go (.body fn.body 0 (.back nm s))⟩
  | call {sd ce fu ca nm f ps fn v ws s} (hf : fs[f]? = some fn) (hc : ca < 60) (hl : ws.length + 1 = ps.length) :
      Step fs ⟨sd, ce, fu + 1, ca, nm, .give v (.part (.call f ps) ws s)⟩ ⟨sd, ce, fu, ca + 1, handed fn (ws ++ [v]), .go (.body fn.body 0 (.back nm s))⟩
  | set {sd ce fu ca nm i x v s} : Step fs ⟨sd, ce, fu, ca, nm, .give v (.deed (.set i x) [] s)⟩ ⟨sd, ce, fu, ca, nm.set i v, .go s⟩
  | put {sd ce fu ca nm x y a v s} (h0 : 0 ≤ a) (h : a < 64) : Step fs ⟨sd, ce, fu, ca, nm, .give v (.deed (.put x y) [a] s)⟩ ⟨sd, ce.set a.toNat v, fu, ca, nm, .go s⟩
  | say {sd ce fu ca nm x v s} : Step fs ⟨sd, ce, fu, ca, nm, .give v (.deed (.say x) [] s)⟩ ⟨sd ++ [v], ce, fu, ca, nm, .go s⟩
  | ite {sd ce fu ca nm x a b v s} : Step fs ⟨sd, ce, fu, ca, nm, .give v (.deed (.ite x a b) [] s)⟩ ⟨sd, ce, fu, ca, nm, .go (.body (if v = 0 then b else a) 0 s)⟩
  | whl0 {sd ce fu ca nm x b s} : Step fs ⟨sd, ce, fu, ca, nm, .give 0 (.deed (.whl x b) [] s)⟩ ⟨sd, ce, fu, ca, nm, .go s⟩
  | whl {sd ce fu ca nm x b v s} (h : v ≠ 0) : Step fs ⟨sd, ce, fu + 1, ca, nm, .give v (.deed (.whl x b) [] s)⟩ ⟨sd, ce, fu, ca, nm, .go (.body b 0 (.again x b s))⟩
  | ret {sd ce fu ca nm x v s} : Step fs ⟨sd, ce, fu, ca, nm, .give v (.deed (.ret x) [] s)⟩ ⟨sd, ce, fu, ca, nm, .ret v (popB s)⟩
  | dop {sd ce fu ca nm x v s} : Step fs ⟨sd, ce, fu, ca, nm, .give v (.deed (.dop x) [] s)⟩ ⟨sd, ce, fu, ca, nm, .go s⟩
  | goBack {sd ce fu ca nm ns s} : Step fs ⟨sd, ce, fu, ca + 1, nm, .go (.back ns s)⟩ ⟨sd, ce, fu, ca, ns, .give 0 s⟩
  | retBack {sd ce fu ca nm ns v s} : Step fs ⟨sd, ce, fu, ca + 1, nm, .ret v (.back ns s)⟩ ⟨sd, ce, fu, ca, ns, .give v s⟩
  | deed {sd ce fu ca nm b i d q s} (h : b[i]? = some d) (hq : (innerD d)[0]? = some q) : Step fs ⟨sd, ce, fu, ca, nm, .go (.body b i s)⟩ ⟨sd, ce, fu, ca, nm, .look q (.deed d [] (.body b (i + 1) s))⟩
  | over {sd ce fu ca nm b i s} (h : b.length ≤ i) : Step fs ⟨sd, ce, fu, ca, nm, .go (.body b i s)⟩ ⟨sd, ce, fu, ca, nm, .go s⟩
  | again {sd ce fu ca nm p b s} : Step fs ⟨sd, ce, fu, ca, nm, .go (.again p b s)⟩ ⟨sd, ce, fu, ca, nm, .look p (.deed (.whl p b) [] s)⟩
inductive Ends (fs : List Fu) : St → Fi → Prop where
  | go {sd ce fu nm} : Ends fs ⟨sd, ce, fu, 0, nm, .go .nil⟩ ⟨sd, ce, .worth 0⟩
  | ret {sd ce fu nm v} : Ends fs ⟨sd, ce, fu, 0, nm, .ret v .nil⟩ ⟨sd, ce, .worth v⟩
  | bin {sd ce fu ca nm a b op x y s} (h : pairI op a b = none) : Ends fs ⟨sd, ce, fu, ca, nm, .give b (.part (.bin op x y) [a] s)⟩ ⟨sd, ce, .fault "over"⟩
  | get {sd ce fu ca nm a x s} (h : ¬ (0 ≤ a ∧ a < 64)) : Ends fs ⟨sd, ce, fu, ca, nm, .give a (.part (.get x) [] s)⟩ ⟨sd, ce, .fault "cell"⟩
  | put {sd ce fu ca nm x y a v s} (h : ¬ (0 ≤ a ∧ a < 64)) : Ends fs ⟨sd, ce, fu, ca, nm, .give v (.deed (.put x y) [a] s)⟩ ⟨sd, ce, .fault "cell"⟩
  | deep0 {sd ce fu ca nm f s} (hc : 60 ≤ ca) : Ends fs ⟨sd, ce, fu, ca, nm, .look (.call f []) s⟩ ⟨sd, ce, .fault "deep"⟩
  | deep {sd ce fu ca nm f ps v ws s} (hc : 60 ≤ ca) (hl : ws.length + 1 = ps.length) : Ends fs ⟨sd, ce, fu, ca, nm, .give v (.part (.call f ps) ws s)⟩ ⟨sd, ce, .fault "deep"⟩
  | long0 {sd ce ca nm f s} (hc : ca < 60) : Ends fs ⟨sd, ce, 0, ca, nm, .look (.call f []) s⟩ ⟨sd, ce, .long⟩
  | long {sd ce ca nm f ps v ws s} (hc : ca < 60) (hl : ws.length + 1 = ps.length) : Ends fs ⟨sd, ce, 0, ca, nm, .give v (.part (.call f ps) ws s)⟩ ⟨sd, ce, .long⟩
  | longW {sd ce ca nm x b v s} (h : v ≠ 0) : Ends fs ⟨sd, ce, 0, ca, nm, .give v (.deed (.whl x b) [] s)⟩ ⟨sd, ce, .long⟩
/-! ### what is well made -/
def InR (v : Int) : Prop := -1000000000 ≤ v ∧ v < 1000000000
mutual
def wfVS (ps : List Nat) : Nat → Nat → VS → Prop
  | nm, c, .part t ws r => ws.length < (innerP t).length ∧ wfP nm ps t ∧ (∀ v ∈ ws, InR v) ∧ wfVS ps nm c r
  | nm, c, .deed d ws r => ws.length < (innerD d).length ∧ wfD nm ps 8 d ∧ szD d ≤ 190 ∧ (∀ v ∈ ws, InR v) ∧ wfDS ps nm c r
def wfDS (ps : List Nat) : Nat → Nat → DS → Prop
  | _, c, .nil => c = 0
  | _, c, .back ns r => ∃ c', c = c' + 1 ∧ (∀ v ∈ ns, InR v) ∧ ns.length ≤ 8 ∧ wfVS ps ns.length c' r
  | nm, c, .body b i r => i ≤ b.length ∧ wfBs nm ps 8 b ∧ szB b ≤ 190 ∧ wfDS ps nm c r
  | nm, c, .again p b r => wfD nm ps 8 (.whl p b) ∧ szD (.whl p b) ≤ 190 ∧ wfDS ps nm c r
end
def flat : DS → Prop
  | .nil => True
  | .back _ _ => True
  | _ => False
def wfC (ps : List Nat) (nm c : Nat) : Ctl → Prop
  | .look p s => wfP nm ps p ∧ wfVS ps nm c s
  | .give v s => InR v ∧ wfVS ps nm c s
  | .go s => wfDS ps nm c s
  | .ret v s => InR v ∧ flat s ∧ wfDS ps nm c s
structure WfSt (ps : List Nat) (st : St) : Prop where
  ce : st.cells.length = 64
  ceR : ∀ v ∈ st.cells, InR v
  nmR : ∀ v ∈ st.names, InR v
  n8 : st.names.length ≤ 8
  fu : st.fuel ≤ 3000
  ca : st.calls ≤ 60
  c : wfC ps st.names.length st.calls st.c
/-! ### how much is left -/
def remP (l : List Pt) (n : Nat) : Nat := szPs (l.drop n)
def bodies : Dd → Nat
  | .ite _ a b => szB a + szB b
  | _ => 0
mutual
def cV : VS → Nat
  | .part t ws r => 3 * remP (innerP t) (ws.length + 1) + 1 + ws.length + cV r
  | .deed d ws r => 3 * remP (innerD d) (ws.length + 1) + 3 * bodies d + 1 + ws.length + cD r
def cD : DS → Nat
  | .nil => 0
  | .back _ r => 3 + cV r
  | .body b i r => 3 * szB (b.drop i) + 1 + cD r
  | .again p b r => 3 * szD (.whl p b) + 1 + cD r
end
def cC : Ctl → Nat
  | .look p s => 3 * szP p + cV s
  | .give _ s => 2 + cV s
  | .go s => cD s
  | .ret _ s => cD s
def left (st : St) : Nat := 1200 * st.fuel + cC st.c
theorem szPs_drop : ∀ {l : List Pt} {n : Nat} {q : Pt}, l[n]? = some q → remP l n = szP q + remP l (n + 1)
  | [], n, q, h => by simp at h
  | p :: r, 0, q, h => by
    simp at h
    subst h
    rfl
  | p :: r, n + 1, q, h => by
    have h1 := szPs_drop (l := r) (n := n) (q := q) (by simpa using h)
    exact h1
theorem szB_drop : ∀ {l : List Dd} {n : Nat} {q : Dd}, l[n]? = some q → szB (l.drop n) = szD q + szB (l.drop (n + 1))
  | [], n, q, h => by simp at h
  | p :: r, 0, q, h => by
    simp at h
    subst h
    rfl
  | p :: r, n + 1, q, h => by
    have h1 := szB_drop (l := r) (n := n) (q := q) (by simpa using h)
    exact h1
theorem szB_drop_le : ∀ (l : List Dd) (n : Nat), szB (l.drop n) ≤ szB l
  | [], _ => by simp
  | p :: r, 0 => Nat.le_refl _
  | p :: r, n + 1 => by
    have := szB_drop_le r n
    simp only [List.drop_succ_cons, szB]
    omega
theorem remP_inner (p : Pt) : 1 + remP (innerP p) 0 = szP p := by
  cases p <;> simp [innerP, remP, szP, szPs] <;> omega
theorem remP_innerD (d : Dd) : 1 + remP (innerD d) 0 + bodies d ≤ szD d := by
  cases d <;> simp [innerD, remP, szD, szPs, bodies] <;> omega
theorem cD_popB : ∀ s : DS, cD (popB s) ≤ cD s
  | .nil => Nat.le_refl _
  | .back _ _ => Nat.le_refl _
  | .body _ _ r => by have := cD_popB r; simp only [popB, cD]; omega
  | .again _ _ r => by have := cD_popB r; simp only [popB, cD]; omega
theorem remP_len {l : List Pt} {n : Nat} (h : l.length ≤ n) : remP l n = 0 := by
  unfold remP
  rw [List.drop_eq_nil_of_le h]
  rfl
theorem wfPs_get {nm : Nat} {ps : List Nat} : ∀ {l : List Pt} {n : Nat} {q : Pt}, wfPs nm ps l → l[n]? = some q → wfP nm ps q
  | [], n, q, _, h => by simp at h
  | p :: r, 0, q, w, h => by simp at h; subst h; exact w.1
  | p :: r, n + 1, q, w, h => wfPs_get (l := r) w.2 (by simpa using h)
theorem wfBs_get {nm : Nat} {ps : List Nat} {m : Nat} : ∀ {l : List Dd} {n : Nat} {q : Dd}, wfBs nm ps m l → l[n]? = some q → wfD nm ps m q
  | [], n, q, _, h => by simp at h
  | p :: r, 0, q, w, h => by
    simp at h
    subst h
    cases m with
    | zero => exact w.elim
    | succ m => exact wfD_mono (Nat.le_succ _) w.1
  | p :: r, n + 1, q, w, h => by
    cases m with
    | zero => exact w.elim
    | succ m => exact wfBs_get (l := r) w.2 (by simpa using h)
theorem wfP_inner {nm : Nat} {ps : List Nat} {p q : Pt} {n : Nat} (w : wfP nm ps p) (h : (innerP p)[n]? = some q) : wfP nm ps q := by
  refine wfPs_get (l := innerP p) ?_ h
  cases p with
  | num => trivial
  | name => trivial
  | bin => exact ⟨w.1, w.2, trivial⟩
  | nt => exact ⟨w, trivial⟩
  | get => exact ⟨w, trivial⟩
  | call => exact w.2
theorem wfD_inner {nm m : Nat} {ps : List Nat} {d : Dd} {q : Pt} {n : Nat} (w : wfD nm ps m d) (h : (innerD d)[n]? = some q) : wfP nm ps q := by
  refine wfPs_get (l := innerD d) ?_ h
  cases d with
  | set => exact ⟨w.2.1, trivial⟩
  | put => exact ⟨w.1, w.2.1, trivial⟩
  | say => exact ⟨w.1, trivial⟩
  | ite => exact ⟨w.1, trivial⟩
  | whl => exact ⟨w.1, trivial⟩
  | ret => exact ⟨w.1, trivial⟩
  | dop => exact ⟨w.1, trivial⟩
theorem szB_get : ∀ {l : List Dd} {n : Nat} {q : Dd}, l[n]? = some q → szD q ≤ szB l
  | [], n, q, h => by simp at h
  | p :: r, 0, q, h => by simp at h; subst h; simp only [szB]; omega
  | p :: r, n + 1, q, h => by
    have := szB_get (l := r) (n := n) (q := q) (by simpa using h)
    simp only [szB]
    omega
theorem ringR (n : Int) : InR (ringI n) := by
  unfold InR ringI
  omega
theorem pairR {op : Op} {a b v : Int} (ha : InR a) (hb : InR b) (h : pairI op a b = some v) : InR v := by
  unfold InR at *
  cases op with
  | add => cases h; exact ringR _
  | take => cases h; exact ringR _
  | times => cases h; exact ringR _
  | over =>
    simp only [pairI] at h
    split at h
    · cases h
    · cases h; exact ringR _
  | rest =>
    simp only [pairI] at h
    split at h
    · cases h
    · rename_i hn
      cases h
      rcases Int.lt_or_gt_of_ne hn with hb' | hb'
      · have h0 := Int.neg_fmod_neg (-a) (-b)
        rw [Int.neg_neg, Int.neg_neg] at h0
        have h1 := Int.fmod_nonneg_of_pos (-a) (b := -b) (by omega)
        have h2 := Int.fmod_lt_of_pos (-a) (b := -b) (by omega)
        omega
      · have h1 := Int.fmod_nonneg_of_pos a hb'
        have h2 := Int.fmod_lt_of_pos a hb'
        omega
  | less =>
    simp only [pairI] at h
    cases h
    split <;> omega
  | same =>
    simp only [pairI] at h
    cases h
    split <;> omega
theorem wfDS_popB {ps : List Nat} {nm c : Nat} : ∀ {s : DS}, wfDS ps nm c s → flat (popB s) ∧ wfDS ps nm c (popB s)
  | .nil, h => ⟨trivial, h⟩
  | .back _ _, h => ⟨trivial, h⟩
  | .body _ _ r, h => wfDS_popB (s := r) h.2.2.2
  | .again _ _ r, h => wfDS_popB (s := r) h.2.2
theorem inR_app {ws : List Int} {v : Int} (h : ∀ x ∈ ws, InR x) (hv : InR v) : ∀ x ∈ ws ++ [v], InR x := by
  intro x hx
  rcases List.mem_append.mp hx with hx | hx
  · exact h x hx
  · simp at hx
    subst hx
    exact hv
theorem inR_set {ws : List Int} {v : Int} {i : Nat} (h : ∀ x ∈ ws, InR x) (hv : InR v) : ∀ x ∈ ws.set i v, InR x := by
  intro x hx
  rcases List.mem_or_eq_of_mem_set hx with hx | hx
  · exact h x hx
  · subst hx; exact hv
theorem inR_handed {fn : Fu} {ws : List Int} (h : ∀ x ∈ ws, InR x) : ∀ x ∈ handed fn ws, InR x := by
  intro x hx
  rcases List.mem_append.mp hx with hx | hx
  · exact h x hx
  · rw [(List.mem_replicate.mp hx).2]
    unfold InR
    omega
structure WfPs (ps : List Nat) (fs : List Fu) : Prop where
  m : fs.map Fu.ps = ps
  pn : ∀ f ∈ fs, f.ps ≤ f.nm
  n8 : ∀ f ∈ fs, f.nm ≤ 8
  wb : ∀ f ∈ fs, wfBs f.nm ps 8 f.body
  sz : ∀ f ∈ fs, szB f.body ≤ 190
theorem handed_len {fn : Fu} {ws : List Int} (h : ws.length = fn.ps) (hp : fn.ps ≤ fn.nm) : (handed fn ws).length = fn.nm := by
  unfold handed
  rw [List.length_append, List.length_replicate]
  omega
theorem WfPs.get {ps : List Nat} {fs : List Fu} (w : WfPs ps fs) {f : Nat} {fn : Fu} {n : Nat} (h : fs[f]? = some fn) (hp : ps[f]? = some n) : n = fn.ps := by
  rw [← w.m, List.getElem?_map, h] at hp
  exact (Option.some.inj hp).symm
theorem lt_of_some {α : Type} {l : List α} {n : Nat} {x : α} (h : l[n]? = some x) : n < l.length := by
  rcases Nat.lt_or_ge n l.length with q | q
  · exact q
  · rw [List.getElem?_eq_none q] at h
    cases h
theorem Step.wf {ps : List Nat} {fs : List Fu} (W : WfPs ps fs) {st st' : St} (w : WfSt ps st) (h : Step fs st st') : WfSt ps st' := by
  obtain ⟨ce, ceR, nmR, n8, fu, ca, c⟩ := w
  cases h with
  | num => exact ⟨ce, ceR, nmR, n8, fu, ca, ⟨by have := c.1; unfold wfP at this; unfold InR; omega, c.2⟩⟩
  | name h => exact ⟨ce, ceR, nmR, n8, fu, ca, ⟨nmR _ (List.mem_of_getElem? h), c.2⟩⟩
  | first h => exact ⟨ce, ceR, nmR, n8, fu, ca, ⟨wfP_inner c.1 h, lt_of_some h, c.1, by simp, c.2⟩⟩
  | next h => exact ⟨ce, ceR, nmR, n8, fu, ca, ⟨wfP_inner c.2.2.1 h, by have := lt_of_some h; rw [List.length_append]; exact this, c.2.2.1, inR_app c.2.2.2.1 c.1, c.2.2.2.2⟩⟩
  | nextD h => exact ⟨ce, ceR, nmR, n8, fu, ca, ⟨wfD_inner c.2.2.1 h, by have := lt_of_some h; rw [List.length_append]; exact this, c.2.2.1, c.2.2.2.1, inR_app c.2.2.2.2.1 c.1, c.2.2.2.2.2⟩⟩
  | bin h => exact ⟨ce, ceR, nmR, n8, fu, ca, ⟨pairR (c.2.2.2.1 _ (by simp)) c.1 h, c.2.2.2.2⟩⟩
  | nt => exact ⟨ce, ceR, nmR, n8, fu, ca, ⟨by unfold InR; split <;> omega, c.2.2.2.2⟩⟩
  | get h0 h => exact ⟨ce, ceR, nmR, n8, fu, ca, ⟨ceR _ (List.mem_of_getElem? h), c.2.2.2.2⟩⟩
  | call0 hf hc =>
    have hm := List.mem_of_getElem? hf
    have hp := W.get hf c.1.1
    have hl := handed_len (ws := []) hp (W.pn _ hm)
    refine ⟨ce, ceR, inR_handed (by simp), by rw [hl]; exact W.n8 _ hm, by simp only at fu ⊢; omega, by simp only at ca ⊢; omega, ?_⟩
    exact ⟨Nat.zero_le _, by rw [hl]; exact W.wb _ hm, W.sz _ hm, _, rfl, nmR, n8, c.2⟩
  | @call _ _ _ _ _ f qs fn v ws s hf hc hl0 =>
    have hm := List.mem_of_getElem? hf
    have hp := W.get hf c.2.2.1.1
    have hl := handed_len (ws := ws ++ [v]) (by rw [List.length_append]; exact hl0.trans hp) (W.pn _ hm)
    refine ⟨ce, ceR, inR_handed (inR_app c.2.2.2.1 c.1), by rw [hl]; exact W.n8 _ hm, by simp only at fu ⊢; omega, by simp only at ca ⊢; omega, ?_⟩
    exact ⟨Nat.zero_le _, by rw [hl]; exact W.wb _ hm, W.sz _ hm, _, rfl, nmR, n8, c.2.2.2.2⟩
  | set => exact ⟨ce, ceR, inR_set nmR c.1, by simpa using n8, fu, ca, by
    show wfDS ps _ _ _
    rw [List.length_set]
    exact c.2.2.2.2.2⟩
  | put h0 h => exact ⟨by simpa using ce, inR_set ceR c.1, nmR, n8, fu, ca, c.2.2.2.2.2⟩
  | say => exact ⟨ce, ceR, nmR, n8, fu, ca, c.2.2.2.2.2⟩
  | @ite _ _ _ _ _ x a b v s =>
    have w := c.2.2.1
    have z := c.2.2.2.1
    simp only [szD] at z
    refine ⟨ce, ceR, nmR, n8, fu, ca, ?_⟩
    split
    · exact ⟨Nat.zero_le _, w.2.2.2, by omega, c.2.2.2.2.2⟩
    · exact ⟨Nat.zero_le _, w.2.2.1, by omega, c.2.2.2.2.2⟩
  | whl0 => exact ⟨ce, ceR, nmR, n8, fu, ca, c.2.2.2.2.2⟩
  | whl h =>
    have w := c.2.2.1
    have z := c.2.2.2.1
    have z' := z
    simp only [szD] at z'
    exact ⟨ce, ceR, nmR, n8, by simp only at fu ⊢; omega, ca, ⟨Nat.zero_le _, w.2.2, by omega, w, z, c.2.2.2.2.2⟩⟩
  | ret =>
    have w := wfDS_popB c.2.2.2.2.2
    exact ⟨ce, ceR, nmR, n8, fu, ca, ⟨c.1, w.1, w.2⟩⟩
  | dop => exact ⟨ce, ceR, nmR, n8, fu, ca, c.2.2.2.2.2⟩
  | @goBack _ _ _ ca' _ ns _ =>
    obtain ⟨c', e, hn, h8, hw⟩ := c
    obtain rfl : ca' = c' := Nat.succ.inj e
    exact ⟨ce, ceR, hn, h8, fu, by simp only at ca ⊢; omega, ⟨by unfold InR; omega, hw⟩⟩
  | @retBack _ _ _ ca' _ ns _ _ =>
    obtain ⟨hv, _, c', e, hn, h8, hw⟩ := c
    obtain rfl : ca' = c' := Nat.succ.inj e
    exact ⟨ce, ceR, hn, h8, fu, by simp only at ca ⊢; omega, ⟨hv, hw⟩⟩
  | deed h hq =>
    have w := wfBs_get c.2.1 h
    have := szB_get h
    exact ⟨ce, ceR, nmR, n8, fu, ca, ⟨wfD_inner w hq, lt_of_some hq, w, Nat.le_trans this c.2.2.1, by simp, lt_of_some h, c.2.1, c.2.2.1, c.2.2.2⟩⟩
  | over h => exact ⟨ce, ceR, nmR, n8, fu, ca, c.2.2.2⟩
  | again => exact ⟨ce, ceR, nmR, n8, fu, ca, ⟨c.1.1, by simp [innerD], c.1, c.2.1, by simp, c.2.2⟩⟩
/-- each step leaves less, and says no more than it leaves less -/
theorem Step.lt {ps : List Nat} {fs : List Fu} (W : WfPs ps fs) {st st' : St} (w : WfSt ps st) (h : Step fs st st') : left st' < left st ∧ st'.said.length + left st' ≤ st.said.length + left st := by
  obtain ⟨ce, ceR, nmR, n8, fu, ca, c⟩ := w
  cases h with
  | num => simp only [left, cC, szP]; omega
  | name h => simp only [left, cC, szP]; omega
  | @first _ _ _ _ _ p q s h =>
    have h1 := szPs_drop h
    have h2 := remP_inner p
    simp only [left, cC, cV, List.length_nil]
    rw [Nat.zero_add] at h1 ⊢
    omega
  | next h =>
    have h1 := szPs_drop h
    simp only [left, cC, cV, List.length_append, List.length_cons, List.length_nil, Nat.zero_add]
    omega
  | nextD h =>
    have h1 := szPs_drop h
    simp only [left, cC, cV, List.length_append, List.length_cons, List.length_nil, Nat.zero_add]
    omega
  | bin h => simp only [left, cC, cV, List.length_cons, List.length_nil]; omega
  | nt => simp only [left, cC, cV, List.length_cons, List.length_nil]; omega
  | get h0 h => simp only [left, cC, cV, List.length_cons, List.length_nil]; omega
  | call0 hf hc =>
    have hs := W.sz _ (List.mem_of_getElem? hf)
    simp only [left, cC, cV, cD, szP, szPs, List.drop_zero, Nat.mul_add]
    omega
  | call hf hc hl =>
    have hs := W.sz _ (List.mem_of_getElem? hf)
    simp only [left, cC, cV, cD, List.drop_zero, Nat.mul_add]
    omega
  | set => simp only [left, cC, cV, List.length_nil]; omega
  | put => simp only [left, cC, cV, List.length_cons, List.length_nil]; omega
  | say => simp only [left, cC, cV, List.length_append, List.length_cons, List.length_nil]; omega
  | ite =>
    simp only [left, cC, cV, cD, bodies, List.length_nil, List.drop_zero]
    split <;> omega
  | whl0 => simp only [left, cC, cV, List.length_nil]; omega
  | whl h =>
    have z := c.2.2.2.1
    have z' := z
    simp only [szD] at z'
    simp only [left, cC, cV, cD, List.drop_zero, Nat.mul_add]
    omega
  | @ret _ _ _ _ _ _ _ s =>
    have := cD_popB s
    simp only [left, cC, cV, List.length_nil]
    omega
  | dop => simp only [left, cC, cV, List.length_nil]; omega
  | goBack => simp only [left, cC, cD]; omega
  | retBack => simp only [left, cC, cD]; omega
  | @deed _ _ _ _ _ _ _ d _ _ h hq =>
    have h1 := szB_drop h
    have h2 := szPs_drop hq
    have h3 := remP_innerD d
    simp only [left, cC, cV, cD, List.length_nil]
    rw [Nat.zero_add] at h2 ⊢
    omega
  | over h => simp only [left, cC, cD]; omega
  | again => simp only [left, cC, cV, cD, szD, bodies, innerD, List.length_nil, remP]; simp [szPs]; omega
end Bq
end

section
set_option maxRecDepth 100000
set_option maxHeartbeats 1000000
namespace Bq
open PySem
/-! ### how the program goes about it: frames with things to do -/
inductive Th where
  | p (p : Pt)
  | d (d : Dd)
def innerT : Th → List Pt
  | .p p => innerP p
  | .d d => innerD d
structure Fr where
  names : List Int
  todo : List (Bool × Th)
  worths : List Int
structure PT where
  said : List Int
  cells : List Int
  fuel : Nat
  fr : List Fr
  told : Int
def asP (l : List Pt) : List (Bool × Th) := l.map fun p => (false, .p p)
def asD (l : List Dd) : List (Bool × Th) := l.map fun d => (false, .d d)
/-- a worth told to the frame around -/
def leaveF (v : Int) (told : Int) : List Fr → List Fr × Int
  | [] => ([], v)
  | g :: r => (⟨g.names, g.todo, g.worths ++ [v]⟩ :: r, told)
inductive PStep (fs : List Fu) : PT → PT → Prop where
  | leave {sd ce fu nm wo r tl} : PStep fs ⟨sd, ce, fu, ⟨nm, [], wo⟩ :: r, tl⟩ ⟨sd, ce, fu, (leaveF 0 tl r).1, (leaveF 0 tl r).2⟩
  | opn {sd ce fu nm t td wo r tl} : PStep fs ⟨sd, ce, fu, ⟨nm, (false, t) :: td, wo⟩ :: r, tl⟩ ⟨sd, ce, fu, ⟨nm, asP (innerT t) ++ (true, t) :: td, wo⟩ :: r, tl⟩
  | num {sd ce fu nm n td wo r tl} : PStep fs ⟨sd, ce, fu, ⟨nm, (true, .p (.num n)) :: td, wo⟩ :: r, tl⟩ ⟨sd, ce, fu, ⟨nm, td, wo ++ [n]⟩ :: r, tl⟩
  | name {sd ce fu nm i v td wo r tl} (h : nm[i]? = some v) : PStep fs ⟨sd, ce, fu, ⟨nm, (true, .p (.name i)) :: td, wo⟩ :: r, tl⟩ ⟨sd, ce, fu, ⟨nm, td, wo ++ [v]⟩ :: r, tl⟩
  | bin {sd ce fu nm op x y a b v td wo r tl} (ha : InR a) (hb : InR b) (h : pairI op a b = some v) : PStep fs ⟨sd, ce, fu, ⟨nm, (true, .p (.bin op x y)) :: td, wo ++ [a, b]⟩ :: r, tl⟩ ⟨sd, ce, fu, ⟨nm, td, wo ++ [v]⟩ :: r, tl⟩
  | nt {sd ce fu nm x a td wo r tl} : PStep fs ⟨sd, ce, fu, ⟨nm, (true, .p (.nt x)) :: td, wo ++ [a]⟩ :: r, tl⟩ ⟨sd, ce, fu, ⟨nm, td, wo ++ [if a = 0 then 1 else 0]⟩ :: r, tl⟩
  | get {sd ce fu nm x a v td wo r tl} (h0 : 0 ≤ a) (h : ce[a.toNat]? = some v) (h6 : ce.length = 64) : PStep fs ⟨sd, ce, fu, ⟨nm, (true, .p (.get x)) :: td, wo ++ [a]⟩ :: r, tl⟩ ⟨sd, ce, fu, ⟨nm, td, wo ++ [v]⟩ :: r, tl⟩
  | call {sd ce fu nm f ps fn ws td wo r tl} (hf : fs[f]? = some fn) (hc : r.length < 60) (hl : ws.length = ps.length) (hp : ws.length = fn.ps) :
      PStep fs ⟨sd, ce, fu + 1, ⟨nm, (true, .p (.call f ps)) :: td, wo ++ ws⟩ :: r, tl⟩ ⟨sd, ce, fu, ⟨handed fn ws, asD fn.body, []⟩ :: ⟨nm, td, wo⟩ :: r, tl⟩
  | set {sd ce fu nm i x v td wo r tl} (hi : i < nm.length) : PStep fs ⟨sd, ce, fu, ⟨nm, (true, .d (.set i x)) :: td, wo ++ [v]⟩ :: r, tl⟩ ⟨sd, ce, fu, ⟨nm.set i v, td, wo⟩ :: r, tl⟩
  | put {sd ce fu nm x y a v td wo r tl} (h0 : 0 ≤ a) (h : a < 64) (h6 : ce.length = 64) : PStep fs ⟨sd, ce, fu, ⟨nm, (true, .d (.put x y)) :: td, wo ++ [a, v]⟩ :: r, tl⟩ ⟨sd, ce.set a.toNat v, fu, ⟨nm, td, wo⟩ :: r, tl⟩
  | say {sd ce fu nm x v td wo r tl} : PStep fs ⟨sd, ce, fu, ⟨nm, (true, .d (.say x)) :: td, wo ++ [v]⟩ :: r, tl⟩ ⟨sd ++ [v], ce, fu, ⟨nm, td, wo⟩ :: r, tl⟩
  | ite {sd ce fu nm x a b v td wo r tl} : PStep fs ⟨sd, ce, fu, ⟨nm, (true, .d (.ite x a b)) :: td, wo ++ [v]⟩ :: r, tl⟩ ⟨sd, ce, fu, ⟨nm, asD (if v = 0 then b else a) ++ td, wo⟩ :: r, tl⟩
  | whl0 {sd ce fu nm x b td wo r tl} : PStep fs ⟨sd, ce, fu, ⟨nm, (true, .d (.whl x b)) :: td, wo ++ [0]⟩ :: r, tl⟩ ⟨sd, ce, fu, ⟨nm, td, wo⟩ :: r, tl⟩
  | whl {sd ce fu nm x b v td wo r tl} (h : v ≠ 0) : PStep fs ⟨sd, ce, fu + 1, ⟨nm, (true, .d (.whl x b)) :: td, wo ++ [v]⟩ :: r, tl⟩ ⟨sd, ce, fu, ⟨nm, asD b ++ (false, .d (.whl x b)) :: td, wo⟩ :: r, tl⟩
  | ret {sd ce fu nm x v td wo r tl} : PStep fs ⟨sd, ce, fu, ⟨nm, (true, .d (.ret x)) :: td, wo ++ [v]⟩ :: r, tl⟩ ⟨sd, ce, fu, (leaveF v tl r).1, (leaveF v tl r).2⟩
  | dop {sd ce fu nm x v td wo r tl} : PStep fs ⟨sd, ce, fu, ⟨nm, (true, .d (.dop x)) :: td, wo ++ [v]⟩ :: r, tl⟩ ⟨sd, ce, fu, ⟨nm, td, wo⟩ :: r, tl⟩
inductive PEnds (fs : List Fu) : PT → Fi → Prop where
  | over {sd ce fu v} : PEnds fs ⟨sd, ce, fu, [], v⟩ ⟨sd, ce, .worth v⟩
  | bin {sd ce fu nm op x y a b td wo r tl} (ha : InR a) (hb : InR b) (h : pairI op a b = none) : PEnds fs ⟨sd, ce, fu, ⟨nm, (true, .p (.bin op x y)) :: td, wo ++ [a, b]⟩ :: r, tl⟩ ⟨sd, ce, .fault "over"⟩
  | get {sd ce fu nm x a td wo r tl} (h : ¬ (0 ≤ a ∧ a < 64)) : PEnds fs ⟨sd, ce, fu, ⟨nm, (true, .p (.get x)) :: td, wo ++ [a]⟩ :: r, tl⟩ ⟨sd, ce, .fault "cell"⟩
  | put {sd ce fu nm x y a v td wo r tl} (h : ¬ (0 ≤ a ∧ a < 64)) : PEnds fs ⟨sd, ce, fu, ⟨nm, (true, .d (.put x y)) :: td, wo ++ [a, v]⟩ :: r, tl⟩ ⟨sd, ce, .fault "cell"⟩
  | deep {sd ce fu nm f ps ws td wo r tl} (hc : 60 ≤ r.length) (hl : ws.length = ps.length) : PEnds fs ⟨sd, ce, fu, ⟨nm, (true, .p (.call f ps)) :: td, wo ++ ws⟩ :: r, tl⟩ ⟨sd, ce, .fault "deep"⟩
  | long {sd ce nm f ps ws td wo r tl} (hc : r.length < 60) (hl : ws.length = ps.length) : PEnds fs ⟨sd, ce, 0, ⟨nm, (true, .p (.call f ps)) :: td, wo ++ ws⟩ :: r, tl⟩ ⟨sd, ce, .long⟩
  | longW {sd ce nm x b v td wo r tl} (h : v ≠ 0) : PEnds fs ⟨sd, ce, 0, ⟨nm, (true, .d (.whl x b)) :: td, wo ++ [v]⟩ :: r, tl⟩ ⟨sd, ce, .long⟩
def lenF (f : Fr) : Nat := f.todo.length + f.worths.length
structure Sm (T : PT) : Prop where
  said : T.said.length ≤ 8000000
  fr : ∀ f ∈ T.fr, lenF f ≤ 8000000
  n : T.fr.length ≤ 61
inductive PRun (fs : List Fu) : Nat → PT → Fi → Prop where
  | fin {T f} (s : Sm T) (h : PEnds fs T f) : PRun fs 0 T f
  | step {T T' n f} (s : Sm T) (h : PStep fs T T') (r : PRun fs n T' f) : PRun fs (n + 1) T f
/-! ### the one told by the other -/
mutual
def cvV : VS → List (Bool × Th) × List Int × List Fr
  | .part t ws r => (asP ((innerP t).drop (ws.length + 1)) ++ (true, .p t) :: (cvV r).1, (cvV r).2.1 ++ ws, (cvV r).2.2)
  | .deed d ws r => (asP ((innerD d).drop (ws.length + 1)) ++ (true, .d d) :: (cvD r).1, (cvD r).2.1 ++ ws, (cvD r).2.2)
def cvD : DS → List (Bool × Th) × List Int × List Fr
  | .nil => ([], [], [])
  | .back ns r => ([], [], ⟨ns, (cvV r).1, (cvV r).2.1⟩ :: (cvV r).2.2)
  | .body b i r => (asD (b.drop i) ++ (cvD r).1, (cvD r).2.1, (cvD r).2.2)
  | .again p b r => ((false, .d (.whl p b)) :: (cvD r).1, (cvD r).2.1, (cvD r).2.2)
end
def cvC (nm : List Int) : Ctl → List Fr × Int
  | .look p s => (⟨nm, (false, .p p) :: (cvV s).1, (cvV s).2.1⟩ :: (cvV s).2.2, 0)
  | .give v s => (⟨nm, (cvV s).1, (cvV s).2.1 ++ [v]⟩ :: (cvV s).2.2, 0)
  | .go s => (⟨nm, (cvD s).1, (cvD s).2.1⟩ :: (cvD s).2.2, 0)
  | .ret v s => leaveF v 0 (cvD s).2.2
def conv (st : St) : PT := ⟨st.said, st.cells, st.fuel, (cvC st.names st.c).1, (cvC st.names st.c).2⟩
theorem remP_le (l : List Pt) : l.length ≤ szPs l := by
  induction l with
  | nil => exact Nat.le_refl _
  | cons p r ih =>
    have : 1 ≤ szP p := by cases p <;> simp only [szP] <;> omega
    simp only [szPs, List.length_cons]
    omega
theorem szB_len (l : List Dd) : l.length ≤ szB l := by
  induction l with
  | nil => exact Nat.le_refl _
  | cons p r ih =>
    have : 1 ≤ szD p := by cases p <;> simp only [szD] <;> omega
    simp only [szB, List.length_cons]
    omega
mutual
theorem cvV_len : ∀ s : VS, (cvV s).1.length + (cvV s).2.1.length ≤ cV s ∧ ∀ f ∈ (cvV s).2.2, lenF f ≤ cV s
  | .part t ws r => by
    have h := cvV_len r
    have h1 := remP_le ((innerP t).drop (ws.length + 1))
    simp only [cvV, cV, remP, asP, List.length_append, List.length_cons, List.length_map]
    exact ⟨by omega, fun f hf => Nat.le_trans (h.2 f hf) (by omega)⟩
  | .deed d ws r => by
    have h := cvD_len r
    have h1 := remP_le ((innerD d).drop (ws.length + 1))
    simp only [cvV, cV, remP, asP, List.length_append, List.length_cons, List.length_map]
    exact ⟨by omega, fun f hf => Nat.le_trans (h.2 f hf) (by omega)⟩
theorem cvD_len : ∀ s : DS, (cvD s).1.length + (cvD s).2.1.length ≤ cD s ∧ ∀ f ∈ (cvD s).2.2, lenF f ≤ cD s
  | .nil => ⟨Nat.le_refl _, fun f hf => by simp [cvD] at hf⟩
  | .back ns r => by
    have h := cvV_len r
    simp only [cvD, cD, List.length_nil]
    refine ⟨by omega, fun f hf => ?_⟩
    rcases List.mem_cons.mp hf with rfl | hf
    · simp only [lenF]; omega
    · exact Nat.le_trans (h.2 f hf) (by omega)
  | .body b i r => by
    have h := cvD_len r
    have h1 := szB_len (b.drop i)
    simp only [cvD, cD, asD, List.length_append, List.length_map]
    exact ⟨by omega, fun f hf => Nat.le_trans (h.2 f hf) (by omega)⟩
  | .again p b r => by
    have h := cvD_len r
    simp only [cvD, cD, List.length_cons]
    exact ⟨by omega, fun f hf => Nat.le_trans (h.2 f hf) (by omega)⟩
end
mutual
theorem cvV_n {ps : List Nat} : ∀ {nm c : Nat} {s : VS}, wfVS ps nm c s → (cvV s).2.2.length = c
  | _, _, .part _ _ r, h => cvV_n (s := r) h.2.2.2
  | _, _, .deed _ _ r, h => cvD_n (s := r) h.2.2.2.2
theorem cvD_n {ps : List Nat} : ∀ {nm c : Nat} {s : DS}, wfDS ps nm c s → (cvD s).2.2.length = c
  | _, _, .nil, h => (show _ = 0 from h).symm
  | _, _, .back _ r, ⟨c', e, _, _, h⟩ => by
    rw [e]
    exact congrArg Nat.succ (cvV_n (s := r) h)
  | _, _, .body _ _ r, h => cvD_n (s := r) h.2.2.2
  | _, _, .again _ _ r, h => cvD_n (s := r) h.2.2
end
theorem leaveF_len (v t : Int) (l : List Fr) : (leaveF v t l).1.length = l.length := by
  cases l <;> rfl
theorem cvD_popB : ∀ s : DS, (cvD (popB s)).2.2 = (cvD s).2.2
  | .nil => rfl
  | .back _ _ => rfl
  | .body _ _ r => cvD_popB r
  | .again _ _ r => cvD_popB r
theorem conv_sm {ps : List Nat} {st : St} (w : WfSt ps st) (h : st.said.length + left st ≤ 4000000) : Sm (conv st) := by
  obtain ⟨ce, ceR, nmR, n8, fu, ca, c⟩ := w
  obtain ⟨sd, ces, fuel, calls, nm, ct⟩ := st
  simp only [left] at h
  refine ⟨by simp only [conv]; omega, ?_, ?_⟩
  · intro f hf
    cases ct with
    | look p s =>
      have h1 := cvV_len s
      simp only [cC] at h
      rcases List.mem_cons.mp hf with rfl | hf
      · simp only [lenF, List.length_cons]; omega
      · exact Nat.le_trans (h1.2 f hf) (by omega)
    | give p s =>
      have h1 := cvV_len s
      simp only [cC] at h
      rcases List.mem_cons.mp hf with rfl | hf
      · simp only [lenF, List.length_append, List.length_cons, List.length_nil]; omega
      · exact Nat.le_trans (h1.2 f hf) (by omega)
    | go s =>
      have h1 := cvD_len s
      simp only [cC] at h
      rcases List.mem_cons.mp hf with rfl | hf
      · simp only [lenF]; omega
      · exact Nat.le_trans (h1.2 f hf) (by omega)
    | ret v s =>
      have h1 := cvD_len s
      simp only [cC] at h
      simp only [conv, cvC] at hf
      generalize (cvD s).2.2 = l at h1 hf
      cases l with
      | nil => simp [leaveF] at hf
      | cons g r =>
        rcases List.mem_cons.mp hf with rfl | hf
        · have := h1.2 g (by simp)
          simp only [lenF] at this
          simp only [lenF, List.length_append, List.length_cons, List.length_nil]; omega
        · exact Nat.le_trans (h1.2 f (by simp [hf])) (by omega)
  · simp only at ca
    cases ct with
    | look p s => have : _ = calls := cvV_n c.2; simp only [conv, cvC, List.length_cons]; omega
    | give p s => have : _ = calls := cvV_n c.2; simp only [conv, cvC, List.length_cons]; omega
    | go s => have : _ = calls := cvD_n c; simp only [conv, cvC, List.length_cons]; omega
    | ret v s => have : _ = calls := cvD_n c.2.2; simp only [conv, cvC, leaveF_len]; omega
/-- a run of the other that begins with the same -/
theorem innerP_drop {p q : Pt} {n : Nat} (h : (innerP p)[n]? = some q) : asP ((innerP p).drop n) = (false, .p q) :: asP ((innerP p).drop (n + 1)) := by
  have hn := lt_of_some h
  rw [List.drop_eq_getElem_cons hn]
  rw [List.getElem?_eq_getElem hn] at h
  cases h
  rfl
theorem innerD_drop {p : Dd} {q : Pt} {n : Nat} (h : (innerD p)[n]? = some q) : asP ((innerD p).drop n) = (false, .p q) :: asP ((innerD p).drop (n + 1)) := by
  have hn := lt_of_some h
  rw [List.drop_eq_getElem_cons hn]
  rw [List.getElem?_eq_getElem hn] at h
  cases h
  rfl
theorem body_drop {b : List Dd} {d : Dd} {n : Nat} (h : b[n]? = some d) : asD (b.drop n) = (false, .d d) :: asD (b.drop (n + 1)) := by
  have hn := lt_of_some h
  rw [List.drop_eq_getElem_cons hn]
  rw [List.getElem?_eq_getElem hn] at h
  cases h
  rfl
def fewer (T : PT) : Prop := T.said.length ≤ 7999000 ∧ (∀ f ∈ T.fr, lenF f ≤ 7999000) ∧ T.fr.length ≤ 61
theorem conv_sm' {ps : List Nat} {st : St} (w : WfSt ps st) (h : st.said.length + left st ≤ 4000000) : Sm (conv st) := conv_sm w h
/-- one to do opened -/
theorem opn_run {fs : List Fu} {sd ce : List Int} {fu n : Nat} {nm wo : List Int} {t : Th} {td : List (Bool × Th)} {r : List Fr} {tl : Int} {f : Fi} (s : Sm ⟨sd, ce, fu, ⟨nm, (false, t) :: td, wo⟩ :: r, tl⟩)
    (h : PRun fs n ⟨sd, ce, fu, ⟨nm, asP (innerT t) ++ (true, t) :: td, wo⟩ :: r, tl⟩ f) : PRun fs (n + 1) ⟨sd, ce, fu, ⟨nm, (false, t) :: td, wo⟩ :: r, tl⟩ f := .step s .opn h
theorem Sm.opened {sd ce : List Int} {fu : Nat} {nm wo : List Int} {t : Th} {td : List (Bool × Th)} {r : List Fr} {tl : Int} (s : Sm ⟨sd, ce, fu, ⟨nm, (false, t) :: td, wo⟩ :: r, tl⟩) : Sm ⟨sd, ce, fu, ⟨nm, (true, t) :: td, wo⟩ :: r, tl⟩ := by
  refine ⟨s.said, fun f hf => ?_, s.n⟩
  rcases List.mem_cons.mp hf with rfl | hf
  · exact s.fr ⟨nm, (false, t) :: td, wo⟩ (by simp)
  · exact s.fr f (by simp [hf])
theorem sim {ps : List Nat} {fs : List Fu} (W : WfPs ps fs) {st st' : St} (w : WfSt ps st) (hs : st.said.length + left st ≤ 4000000) (h : Step fs st st') {n : Nat} {f : Fi} (r : PRun fs n (conv st') f) : ∃ n', PRun fs n' (conv st) f := by
  have sm := conv_sm w hs
  obtain ⟨ce, ceR, nmR, n8, fu, ca, c⟩ := w
  cases h with
  | num => exact ⟨_, .step sm .opn (.step sm.opened .num r)⟩
  | name h => exact ⟨_, .step sm .opn (.step sm.opened (.name h) r)⟩
  | @first _ _ _ _ _ p q s h =>
    refine ⟨n + 1, .step sm .opn ?_⟩
    have e := innerP_drop h
    rw [List.drop_zero] at e
    simp only [innerT, e, List.cons_append]
    simp only [conv, cvC, cvV, List.length_nil, List.append_nil] at r
    exact r
  | next h =>
    refine ⟨n, ?_⟩
    have e := innerP_drop h
    simp only [conv, cvC, cvV, List.length_append, List.length_cons, List.length_nil, Nat.zero_add] at r
    simp only [conv, cvC, cvV, e, List.cons_append, List.append_assoc]
    rw [← List.append_assoc] at r ⊢
    exact r
  | nextD h =>
    refine ⟨n, ?_⟩
    have e := innerD_drop h
    simp only [conv, cvC, cvV, List.length_append, List.length_cons, List.length_nil, Nat.zero_add] at r
    simp only [conv, cvC, cvV, e, List.cons_append, List.append_assoc]
    rw [← List.append_assoc] at r ⊢
    exact r
  | bin h =>
    refine ⟨_, .step sm ?_ r⟩
    simp only [conv, cvC, cvV, innerP, List.length_cons, List.length_nil, List.drop_succ_cons, List.drop_nil, asP, List.map_nil, List.nil_append, List.append_assoc, List.cons_append]
    exact .bin (c.2.2.2.1 _ (by simp)) c.1 h
  | nt =>
    refine ⟨_, .step sm ?_ r⟩
    simp only [conv, cvC, cvV, innerP, List.length_cons, List.length_nil, List.drop_succ_cons, List.drop_nil, asP, List.map_nil, List.nil_append, List.append_nil]
    exact .nt
  | get h0 h =>
    refine ⟨_, .step sm ?_ r⟩
    simp only [conv, cvC, cvV, innerP, List.length_cons, List.length_nil, List.drop_succ_cons, List.drop_nil, asP, List.map_nil, List.nil_append, List.append_nil]
    exact .get h0 h ce
  | @call0 sd cee fuu caa nmm f fn s hf hc =>
    have hn := cvV_n c.2
    refine ⟨_, .step sm .opn (.step sm.opened ?_ r)⟩
    have h2 := PStep.call (fs := fs) (sd := sd) (ce := cee) (fu := fuu) (nm := nmm) (f := f) (ps := []) (fn := fn) (ws := []) (td := (cvV s).1) (wo := (cvV s).2.1) (r := (cvV s).2.2) (tl := 0) hf (by simp only at hn; omega) rfl (W.get hf c.1.1)
    rw [List.append_nil] at h2
    simp only [conv, cvC, cvD, innerT, innerP, asP, List.map_nil, List.nil_append, List.drop_zero, List.append_nil]
    exact h2
  | @call sd cee fuu caa nmm f qs fn v ws s hf hc hl =>
    have hn := cvV_n c.2.2.2.2
    have hp := W.get hf c.2.2.1.1
    refine ⟨_, .step sm ?_ r⟩
    have h2 := PStep.call (fs := fs) (sd := sd) (ce := cee) (fu := fuu) (nm := nmm) (f := f) (ps := qs) (fn := fn) (ws := ws ++ [v]) (td := (cvV s).1) (wo := (cvV s).2.1) (r := (cvV s).2.2) (tl := 0) hf (by simp only at hn; omega) (by rw [List.length_append]; exact hl) (by rw [List.length_append]; exact hl.trans hp)
    simp only [conv, cvC, cvV, cvD, innerP, List.drop_eq_nil_of_le (Nat.le_of_eq hl.symm), asP, List.map_nil, List.nil_append, List.drop_zero, List.append_nil, List.append_assoc]
    exact h2
  | set =>
    refine ⟨_, .step sm ?_ r⟩
    simp only [conv, cvC, cvV, innerD, List.length_cons, List.length_nil, List.drop_succ_cons, List.drop_nil, asP, List.map_nil, List.nil_append, List.append_nil]
    exact .set c.2.2.1.1
  | put h0 h =>
    refine ⟨_, .step sm ?_ r⟩
    simp only [conv, cvC, cvV, innerD, List.length_cons, List.length_nil, List.drop_succ_cons, List.drop_nil, asP, List.map_nil, List.nil_append, List.append_assoc, List.cons_append]
    exact .put h0 h ce
  | say =>
    refine ⟨_, .step sm ?_ r⟩
    simp only [conv, cvC, cvV, innerD, List.length_cons, List.length_nil, List.drop_succ_cons, List.drop_nil, asP, List.map_nil, List.nil_append, List.append_nil]
    exact .say
  | ite =>
    refine ⟨_, .step sm ?_ r⟩
    simp only [conv, cvC, cvV, cvD, innerD, List.length_cons, List.length_nil, List.drop_succ_cons, List.drop_nil, asP, List.map_nil, List.nil_append, List.append_nil, List.drop_zero]
    exact .ite
  | whl0 =>
    refine ⟨_, .step sm ?_ r⟩
    simp only [conv, cvC, cvV, innerD, List.length_cons, List.length_nil, List.drop_succ_cons, List.drop_nil, asP, List.map_nil, List.nil_append, List.append_nil]
    exact .whl0
  | whl h =>
    refine ⟨_, .step sm ?_ r⟩
    simp only [conv, cvC, cvV, cvD, innerD, List.length_cons, List.length_nil, List.drop_succ_cons, List.drop_nil, asP, List.map_nil, List.nil_append, List.append_nil, List.drop_zero]
    exact .whl h
  | ret =>
    refine ⟨_, .step sm ?_ r⟩
    simp only [conv, cvC, cvV, cvD_popB, innerD, List.length_cons, List.length_nil, List.drop_succ_cons, List.drop_nil, asP, List.map_nil, List.nil_append, List.append_nil]
    exact .ret
  | dop =>
    refine ⟨_, .step sm ?_ r⟩
    simp only [conv, cvC, cvV, innerD, List.length_cons, List.length_nil, List.drop_succ_cons, List.drop_nil, asP, List.map_nil, List.nil_append, List.append_nil]
    exact .dop
  | goBack => exact ⟨_, .step sm .leave r⟩
  | retBack => exact ⟨_, r⟩
  | @deed sd cee fuu caa nmm b i d q s h hq =>
    refine ⟨_, .step sm ?_ r⟩
    have e := innerD_drop hq
    rw [List.drop_zero] at e
    simp only [conv, cvC, cvV, cvD, body_drop h, List.length_nil, List.append_nil, Nat.zero_add, List.cons_append]
    have h2 := PStep.opn (fs := fs) (sd := sd) (ce := cee) (fu := fuu) (nm := nmm) (t := .d d) (td := asD (b.drop (i + 1)) ++ (cvD s).1) (wo := (cvD s).2.1) (r := (cvD s).2.2) (tl := 0)
    simp only [innerT, e, List.cons_append] at h2
    exact h2
  | over h =>
    refine ⟨n, ?_⟩
    simp only [conv, cvC, cvD, List.drop_eq_nil_of_le h, asD, List.map_nil, List.nil_append]
    exact r
  | again =>
    refine ⟨_, .step sm ?_ r⟩
    simp only [conv, cvC, cvV, cvD, List.length_nil, List.append_nil, Nat.zero_add]
    exact .opn
theorem simE {ps : List Nat} {fs : List Fu} (W : WfPs ps fs) {st : St} (w : WfSt ps st) (hs : st.said.length + left st ≤ 4000000) {f : Fi} (h : Ends fs st f) : ∃ n', PRun fs n' (conv st) f := by
  have sm := conv_sm w hs
  obtain ⟨ce, ceR, nmR, n8, fu, ca, c⟩ := w
  cases h with
  | go => exact ⟨_, .step sm .leave (.fin ⟨sm.said, fun f hf => by simp [cvD, leaveF] at hf, by simp [cvD, leaveF]⟩ .over)⟩
  | ret => exact ⟨0, .fin sm .over⟩
  | bin h =>
    refine ⟨0, .fin sm ?_⟩
    simp only [conv, cvC, cvV, innerP, List.length_cons, List.length_nil, List.drop_succ_cons, List.drop_nil, asP, List.map_nil, List.nil_append, List.append_assoc, List.cons_append]
    exact .bin (c.2.2.2.1 _ (by simp)) c.1 h
  | get h =>
    refine ⟨0, .fin sm ?_⟩
    simp only [conv, cvC, cvV, innerP, List.length_cons, List.length_nil, List.drop_succ_cons, List.drop_nil, asP, List.map_nil, List.nil_append, List.append_nil]
    exact .get h
  | put h =>
    refine ⟨0, .fin sm ?_⟩
    simp only [conv, cvC, cvV, innerD, List.length_cons, List.length_nil, List.drop_succ_cons, List.drop_nil, asP, List.map_nil, List.nil_append, List.append_assoc, List.cons_append]
    exact .put h
  | @deep0 sd cee fuu caa nmm f s hc =>
    have hn : _ = _ := cvV_n c.2
    refine ⟨_, .step sm .opn (.fin sm.opened ?_)⟩
    have h2 := PEnds.deep (fs := fs) (sd := sd) (ce := cee) (fu := fuu) (nm := nmm) (f := f) (ps := []) (ws := []) (td := (cvV s).1) (wo := (cvV s).2.1) (r := (cvV s).2.2) (tl := 0) (by simp only at hn; omega) rfl
    rw [List.append_nil] at h2
    exact h2
  | @deep sd cee fuu caa nmm f qs v ws s hc hl =>
    have hn := cvV_n c.2.2.2.2
    refine ⟨0, .fin sm ?_⟩
    have h2 := PEnds.deep (fs := fs) (sd := sd) (ce := cee) (fu := fuu) (nm := nmm) (f := f) (ps := qs) (ws := ws ++ [v]) (td := (cvV s).1) (wo := (cvV s).2.1) (r := (cvV s).2.2) (tl := 0) (by simp only at hn; omega) (by rw [List.length_append]; exact hl)
    simp only [conv, cvC, cvV, innerP, List.drop_eq_nil_of_le (Nat.le_of_eq hl.symm), asP, List.map_nil, List.nil_append, List.append_assoc]
    exact h2
  | @long0 sd cee caa nmm f s hc =>
    have hn : _ = _ := cvV_n c.2
    refine ⟨_, .step sm .opn (.fin sm.opened ?_)⟩
    have h2 := PEnds.long (fs := fs) (sd := sd) (ce := cee) (nm := nmm) (f := f) (ps := []) (ws := []) (td := (cvV s).1) (wo := (cvV s).2.1) (r := (cvV s).2.2) (tl := 0) (by simp only at hn; omega) rfl
    rw [List.append_nil] at h2
    exact h2
  | @long sd cee caa nmm f qs v ws s hc hl =>
    have hn := cvV_n c.2.2.2.2
    refine ⟨0, .fin sm ?_⟩
    have h2 := PEnds.long (fs := fs) (sd := sd) (ce := cee) (nm := nmm) (f := f) (ps := qs) (ws := ws ++ [v]) (td := (cvV s).1) (wo := (cvV s).2.1) (r := (cvV s).2.2) (tl := 0) (by simp only at hn; omega) (by rw [List.length_append]; exact hl)
    simp only [conv, cvC, cvV, innerP, List.drop_eq_nil_of_le (Nat.le_of_eq hl.symm), asP, List.map_nil, List.nil_append, List.append_assoc]
    exact h2
  | longW h =>
    refine ⟨0, .fin sm ?_⟩
    simp only [conv, cvC, cvV, innerD, List.length_cons, List.length_nil, List.drop_succ_cons, List.drop_nil, asP, List.map_nil, List.nil_append, List.append_nil]
    exact .longW h
inductive Run (fs : List Fu) : St → Fi → Prop where
  | fin {st f} (h : Ends fs st f) : Run fs st f
  | step {st st' f} (h : Step fs st st') (r : Run fs st' f) : Run fs st f
theorem Run.sim {ps : List Nat} {fs : List Fu} (W : WfPs ps fs) {st : St} {f : Fi} (r : Run fs st f) : WfSt ps st → st.said.length + left st ≤ 4000000 → ∃ n, PRun fs n (conv st) f := by
  induction r with
  | fin h => exact fun w hs => simE W w hs h
  | step h r ih =>
    intro w hs
    have l := h.lt W w
    obtain ⟨n, q⟩ := ih (h.wf W w) (Nat.le_trans l.2 hs)
    exact Bq.sim W w hs h q
end Bq
end

section
set_option maxRecDepth 100000
set_option maxHeartbeats 0
namespace K3
open PySem PySem.Spec PyProof.Rows L2
def d_BadProgram_init : He.DefD := ⟨("BadProgram", some "__init__"), "__init__", "BadProgram.__init__", defArgs s_BadProgram_init, defBody s_BadProgram_init, defScope s_BadProgram_init, [], []⟩
def d_is_number : He.DefD := ⟨("is_number", none), "is_number", "is_number", defArgs s_is_number, defBody s_is_number, defScope s_is_number, [], []⟩
def d_places_behind : He.DefD := ⟨("places_behind", none), "places_behind", "places_behind", defArgs s_places_behind, defBody s_places_behind, defScope s_places_behind, [], []⟩
def d_parts_of : He.DefD := ⟨("parts_of", none), "parts_of", "parts_of", defArgs s_parts_of, defBody s_parts_of, defScope s_parts_of, [], []⟩
def d_bodies_of : He.DefD := ⟨("bodies_of", none), "bodies_of", "bodies_of", defArgs s_bodies_of, defBody s_bodies_of, defScope s_bodies_of, [], []⟩
def d_check_program : He.DefD := ⟨("check_program", none), "check_program", "check_program", defArgs s_check_program, defBody s_check_program, defScope s_check_program, [], []⟩
def d_check_fuel : He.DefD := ⟨("check_fuel", none), "check_fuel", "check_fuel", defArgs s_check_fuel, defBody s_check_fuel, defScope s_check_fuel, [], []⟩
def d_params_of : He.DefD := ⟨("params_of", none), "params_of", "params_of", defArgs s_params_of, defBody s_params_of, defScope s_params_of, [], []⟩
def d_fun_flaw : He.DefD := ⟨("fun_flaw", none), "fun_flaw", "fun_flaw", defArgs s_fun_flaw, defBody s_fun_flaw, defScope s_fun_flaw, [], []⟩
def d_body_flaw : He.DefD := ⟨("body_flaw", none), "body_flaw", "body_flaw", defArgs s_body_flaw, defBody s_body_flaw, defScope s_body_flaw, [], []⟩
def d_things_within : He.DefD := ⟨("things_within", none), "things_within", "things_within", defArgs s_things_within, defBody s_things_within, defScope s_things_within, [], []⟩
def d_bound_flaw : He.DefD := ⟨("bound_flaw", none), "bound_flaw", "bound_flaw", defArgs s_bound_flaw, defBody s_bound_flaw, defScope s_bound_flaw, [], []⟩
def d_shape_flaw : He.DefD := ⟨("shape_flaw", none), "shape_flaw", "shape_flaw", defArgs s_shape_flaw, defBody s_shape_flaw, defScope s_shape_flaw, [], []⟩
def d_number_flaw : He.DefD := ⟨("number_flaw", none), "number_flaw", "number_flaw", defArgs s_number_flaw, defBody s_number_flaw, defScope s_number_flaw, [], []⟩
def d_takes : He.DefD := ⟨("takes", none), "takes", "takes", defArgs s_takes, defBody s_takes, defScope s_takes, [], []⟩
def d_Fault_init : He.DefD := ⟨("Fault", some "__init__"), "__init__", "Fault.__init__", defArgs s_Fault_init, defBody s_Fault_init, defScope s_Fault_init, [], []⟩
def d_World_init : He.DefD := ⟨("World", some "__init__"), "__init__", "World.__init__", defArgs s_World_init, defBody s_World_init, defScope s_World_init, [], []⟩
def d_World_held_in : He.DefD := ⟨("World", some "held_in"), "held_in", "World.held_in", defArgs s_World_held_in, defBody s_World_held_in, defScope s_World_held_in, [], []⟩
def d_World_put_in : He.DefD := ⟨("World", some "put_in"), "put_in", "World.put_in", defArgs s_World_put_in, defBody s_World_put_in, defScope s_World_put_in, [], []⟩
def d_World_worth_here : He.DefD := ⟨("World", some "worth_here"), "worth_here", "World.worth_here", defArgs s_World_worth_here, defBody s_World_worth_here, defScope s_World_worth_here, [], []⟩
def d_World_spend_on_call : He.DefD := ⟨("World", some "spend_on_call"), "spend_on_call", "World.spend_on_call", defArgs s_World_spend_on_call, defBody s_World_spend_on_call, defScope s_World_spend_on_call, [], []⟩
def d_World_spend : He.DefD := ⟨("World", some "spend"), "spend", "World.spend", defArgs s_World_spend, defBody s_World_spend, defScope s_World_spend, [], []⟩
def d_check_cell : He.DefD := ⟨("check_cell", none), "check_cell", "check_cell", defArgs s_check_cell, defBody s_check_cell, defScope s_check_cell, [], []⟩
def d_in_stretch : He.DefD := ⟨("in_stretch", none), "in_stretch", "in_stretch", defArgs s_in_stretch, defBody s_in_stretch, defScope s_in_stretch, [], []⟩
def d_worth_of : He.DefD := ⟨("worth_of", none), "worth_of", "worth_of", defArgs s_worth_of, defBody s_worth_of, defScope s_worth_of, [], []⟩
def d_divided : He.DefD := ⟨("divided", none), "divided", "divided", defArgs s_divided, defBody s_divided, defScope s_divided, [], []⟩
def d_run : He.DefD := ⟨("run", none), "run", "run", defArgs s_run, defBody s_run, defScope s_run, [], []⟩
def d_Frame_init : He.DefD := ⟨("Frame", some "__init__"), "__init__", "Frame.__init__", defArgs s_Frame_init, defBody s_Frame_init, defScope s_Frame_init, [], []⟩
def d_Frame_lay_ahead : He.DefD := ⟨("Frame", some "lay_ahead"), "lay_ahead", "Frame.lay_ahead", defArgs s_Frame_lay_ahead, defBody s_Frame_lay_ahead, defScope s_Frame_lay_ahead, [], []⟩
def d_Frame_take_worths : He.DefD := ⟨("Frame", some "take_worths"), "take_worths", "Frame.take_worths", defArgs s_Frame_take_worths, defBody s_Frame_take_worths, defScope s_Frame_take_worths, [], []⟩
def d_Doing_init : He.DefD := ⟨("Doing", some "__init__"), "__init__", "Doing.__init__", defArgs s_Doing_init, defBody s_Doing_init, defScope s_Doing_init, [], []⟩
def d_Doing_told_at_last : He.DefD := ⟨("Doing", some "told_at_last"), "told_at_last", "Doing.told_at_last", defArgs s_Doing_told_at_last, defBody s_Doing_told_at_last, defScope s_Doing_told_at_last, [], []⟩
def d_Doing_step : He.DefD := ⟨("Doing", some "step"), "step", "Doing.step", defArgs s_Doing_step, defBody s_Doing_step, defScope s_Doing_step, [], []⟩
def d_Doing_finish : He.DefD := ⟨("Doing", some "finish"), "finish", "Doing.finish", defArgs s_Doing_finish, defBody s_Doing_finish, defScope s_Doing_finish, [], []⟩
def d_Doing_enter : He.DefD := ⟨("Doing", some "enter"), "enter", "Doing.enter", defArgs s_Doing_enter, defBody s_Doing_enter, defScope s_Doing_enter, [], []⟩
def d_Doing_leave : He.DefD := ⟨("Doing", some "leave"), "leave", "Doing.leave", defArgs s_Doing_leave, defBody s_Doing_leave, defScope s_Doing_leave, [], []⟩
def d_law_dice : He.DefD := ⟨("_law_dice", none), "_law_dice", "_law_dice", defArgs s_law_dice, defBody s_law_dice, defScope s_law_dice, [], []⟩
def d_law_next : He.DefD := ⟨("_law_next", none), "_law_next", "_law_next", defArgs s_law_next, defBody s_law_next, defScope s_law_next, [], []⟩
def d_law_like : He.DefD := ⟨("_law_like", none), "_law_like", "_law_like", defArgs s_law_like, defBody s_law_like, defScope s_law_like, [], []⟩
def d_law_leaf : He.DefD := ⟨("_law_leaf", none), "_law_leaf", "_law_leaf", defArgs s_law_leaf, defBody s_law_leaf, defScope s_law_leaf, [], []⟩
def d_law_part : He.DefD := ⟨("_law_part", none), "_law_part", "_law_part", defArgs s_law_part, defBody s_law_part, defScope s_law_part, [], []⟩
def d_law_one : He.DefD := ⟨("_law_one", none), "_law_one", "_law_one", defArgs s_law_one, defBody s_law_one, defScope s_law_one, [], []⟩
def d_law_deed : He.DefD := ⟨("_law_deed", none), "_law_deed", "_law_deed", defArgs s_law_deed, defBody s_law_deed, defScope s_law_deed, [], []⟩
def d_law_while : He.DefD := ⟨("_law_while", none), "_law_while", "_law_while", defArgs s_law_while, defBody s_law_while, defScope s_law_while, [], []⟩
def d_law_body : He.DefD := ⟨("_law_body", none), "_law_body", "_law_body", defArgs s_law_body, defBody s_law_body, defScope s_law_body, [], []⟩
def d_law_things : He.DefD := ⟨("_law_things", none), "_law_things", "_law_things", defArgs s_law_things, defBody s_law_things, defScope s_law_things, [], []⟩
def d_law_tower : He.DefD := ⟨("_law_tower", none), "_law_tower", "_law_tower", defArgs s_law_tower, defBody s_law_tower, defScope s_law_tower, [], []⟩
def d_law_program : He.DefD := ⟨("_law_program", none), "_law_program", "_law_program", defArgs s_law_program, defBody s_law_program, defScope s_law_program, [], []⟩
def d_law_ring : He.DefD := ⟨("_law_ring", none), "_law_ring", "_law_ring", defArgs s_law_ring, defBody s_law_ring, defScope s_law_ring, [], []⟩
def d_law_pair : He.DefD := ⟨("_law_pair", none), "_law_pair", "_law_pair", defArgs s_law_pair, defBody s_law_pair, defScope s_law_pair, [], []⟩
def d_law_fresh : He.DefD := ⟨("_law_fresh", none), "_law_fresh", "_law_fresh", defArgs s_law_fresh, defBody s_law_fresh, defScope s_law_fresh, [], []⟩
def d_law_inner : He.DefD := ⟨("_law_inner", none), "_law_inner", "_law_inner", defArgs s_law_inner, defBody s_law_inner, defScope s_law_inner, [], []⟩
def d_law_go : He.DefD := ⟨("_law_go", none), "_law_go", "_law_go", defArgs s_law_go, defBody s_law_go, defScope s_law_go, [], []⟩
def d_law_begin : He.DefD := ⟨("_law_begin", none), "_law_begin", "_law_begin", defArgs s_law_begin, defBody s_law_begin, defScope s_law_begin, [], []⟩
def d_law_goes : He.DefD := ⟨("_law_goes", none), "_law_goes", "_law_goes", defArgs s_law_goes, defBody s_law_goes, defScope s_law_goes, [], []⟩
def d_law_call : He.DefD := ⟨("_law_call", none), "_law_call", "_law_call", defArgs s_law_call, defBody s_law_call, defScope s_law_call, [], []⟩
def d_law_deed_done : He.DefD := ⟨("_law_deed_done", none), "_law_deed_done", "_law_deed_done", defArgs s_law_deed_done, defBody s_law_deed_done, defScope s_law_deed_done, [], []⟩
def d_law_run : He.DefD := ⟨("_law_run", none), "_law_run", "_law_run", defArgs s_law_run, defBody s_law_run, defScope s_law_run, [], []⟩
def d_law_fuel : He.DefD := ⟨("_law_fuel", none), "_law_fuel", "_law_fuel", defArgs s_law_fuel, defBody s_law_fuel, defScope s_law_fuel, [], []⟩
def d_law : He.DefD := ⟨("law", none), "law", "law", defArgs s_law, defBody s_law, defScope s_law, [], []⟩
def fn_0 : List He.DefD := [d_is_number, d_places_behind, d_parts_of, d_bodies_of, d_check_program, d_check_fuel, d_params_of, d_fun_flaw, d_body_flaw, d_things_within, d_bound_flaw, d_shape_flaw, d_number_flaw, d_takes, d_World_init, d_World_held_in, d_World_put_in, d_World_worth_here, d_World_spend_on_call, d_World_spend, d_check_cell, d_in_stretch, d_worth_of, d_divided, d_run, d_Frame_init, d_Frame_lay_ahead, d_Frame_take_worths, d_Doing_init, d_Doing_told_at_last, d_Doing_step, d_Doing_finish, d_Doing_enter, d_Doing_leave, d_law_dice]
def fn_1 : List He.DefD := [d_law_next, d_law_like, d_law_leaf, d_law_part, d_law_one, d_law_deed, d_law_while, d_law_body, d_law_things, d_law_tower, d_law_program, d_law_ring, d_law_pair, d_law_fresh, d_law_inner, d_law_go, d_law_begin, d_law_goes, d_law_call, d_law_deed_done, d_law_run, d_law_fuel, d_law]
def fn : List He.DefD := fn_0 ++ fn_1
def fa_0 : List He.Fa := [.glo "is_number", .glo "places_behind", .glo "parts_of", .glo "bodies_of", .glo "check_program", .glo "check_fuel", .glo "params_of", .glo "fun_flaw", .glo "body_flaw", .glo "things_within", .glo "bound_flaw", .glo "shape_flaw", .glo "number_flaw", .glo "takes", .meth "World" "held_in", .meth "World" "put_in", .meth "World" "worth_here", .meth "World" "spend_on_call", .meth "World" "spend", .glo "check_cell", .glo "in_stretch", .glo "worth_of", .glo "divided", .glo "run", .meth "Frame" "lay_ahead", .meth "Frame" "take_worths", .meth "Doing" "told_at_last", .meth "Doing" "step", .meth "Doing" "finish", .meth "Doing" "enter", .meth "Doing" "leave", .glo "_law_dice", .glo "_law_next", .glo "_law_like", .glo "_law_leaf"]
def fa_1 : List He.Fa := [.glo "_law_part", .glo "_law_one", .glo "_law_deed", .glo "_law_while", .glo "_law_body", .glo "_law_things", .glo "_law_tower", .glo "_law_program", .glo "_law_ring", .glo "_law_pair", .glo "_law_fresh", .glo "_law_inner", .glo "_law_go", .glo "_law_begin", .glo "_law_goes", .glo "_law_call", .glo "_law_deed_done", .glo "_law_run", .glo "_law_fuel", .glo "law", .glo "MillError", .glo "BadProgram", .glo "BadFuel", .glo "Fault", .glo "Long", .glo "World", .cls "World", .mkr "World", .noat "World" "cells", .noat "World" "fuel", .noat "World" "said", .glo "Frame", .cls "Frame", .mkr "Frame", .noat "Frame" "names"]
def fa_2 : List He.Fa := [.noat "Frame" "todo", .noat "Frame" "worths", .glo "Doing", .cls "Doing", .mkr "Doing", .noat "Doing" "frames", .noat "Doing" "program", .noat "Doing" "told", .noat "Doing" "world", .glo "DEEDS", .glo "PARTS", .glo "NUMBER_PLACES", .glo "TUPLE_PLACES", .int "MOST_FUNS" (8), .int "MOST_PARAMS" (4), .int "MOST_NAMES" (8), .int "MOST_THINGS" (200), .int "MOST_DEEDS_AROUND" (7), .int "MOST_PARTS" (40), .int "MOST_NUM" (1000000), .int "MOST_FUEL" (3000), .int "A_PART" (-1), .int "LEAST" (-1000000000), .int "SPAN" (2000000000), .int "MANY_CELLS" (64), .int "MOST_WAITING" (60), .free "super", .free "isinstance", .free "int", .free "bool", .free "list", .free "zip", .free "tuple", .free "len", .free "enumerate"]
def fa_3 : List He.Fa := [.free "reversed", .free "str", .free "abs", .free "range", .free "sum", .free "min"]
def fa : List He.Fa := fa_0 ++ fa_1 ++ fa_2 ++ fa_3
def loose_0 : List Str := [("is_number" : Str), ("places_behind" : Str), ("parts_of" : Str), ("bodies_of" : Str), ("check_program" : Str), ("check_fuel" : Str), ("params_of" : Str), ("fun_flaw" : Str), ("body_flaw" : Str), ("things_within" : Str), ("bound_flaw" : Str), ("shape_flaw" : Str), ("number_flaw" : Str), ("takes" : Str), ("check_cell" : Str), ("in_stretch" : Str), ("worth_of" : Str), ("divided" : Str), ("run" : Str), ("_law_dice" : Str), ("_law_next" : Str), ("_law_like" : Str), ("_law_leaf" : Str), ("_law_part" : Str), ("_law_one" : Str), ("_law_deed" : Str), ("_law_while" : Str), ("_law_body" : Str), ("_law_things" : Str), ("_law_tower" : Str), ("_law_program" : Str), ("_law_ring" : Str), ("_law_pair" : Str), ("_law_fresh" : Str), ("_law_inner" : Str)]
def loose_1 : List Str := [("_law_go" : Str), ("_law_begin" : Str), ("_law_goes" : Str), ("_law_call" : Str), ("_law_deed_done" : Str), ("_law_run" : Str), ("_law_fuel" : Str), ("MillError" : Str), ("BadProgram" : Str), ("BadFuel" : Str), ("Fault" : Str), ("Long" : Str), ("World" : Str), ("Frame" : Str), ("Doing" : Str), ("DEEDS" : Str), ("PARTS" : Str), ("NUMBER_PLACES" : Str), ("TUPLE_PLACES" : Str), ("MOST_FUNS" : Str), ("MOST_PARAMS" : Str), ("MOST_NAMES" : Str), ("MOST_THINGS" : Str), ("MOST_DEEDS_AROUND" : Str), ("MOST_PARTS" : Str), ("MOST_NUM" : Str), ("MOST_FUEL" : Str), ("A_PART" : Str), ("LEAST" : Str), ("SPAN" : Str), ("MANY_CELLS" : Str), ("MOST_WAITING" : Str)]
def loose : List Str := loose_0 ++ loose_1
def ts : List He.Tab := [(fun K => He.ga K "DEEDS", ["set", "put", "say", "if", "while", "return", "do"]), (fun K => He.ga K "PARTS", ["num", "name", "add", "take", "times", "over", "rest", "less", "same", "not", "get", "call"])]
def tupsB (K : PySem.W.Frag) : Bool := Bq.modTup K "NUMBER_PLACES" ["n", "name", "fun"] && Bq.modTup K "TUPLE_PLACES" ["body", "parts"]
def tabsB (K : PySem.W.Frag) : Bool := Bq.modTab K "DEEDS" [("set", some ["name", "part"]), ("put", some ["part", "part"]), ("say", some ["part"]), ("if", some ["part", "body", "body"]), ("while", some ["part", "body"]), ("return", some ["part"]), ("do", some ["part"]), ("num", none), ("name", none), ("add", none), ("take", none), ("times", none), ("over", none), ("rest", none), ("less", none), ("same", none), ("not", none), ("get", none), ("call", none)] && Bq.modTab K "PARTS" [("set", none), ("put", none), ("say", none), ("if", none), ("while", none), ("return", none), ("do", none), ("num", some ["n"]), ("name", some ["name"]), ("add", some ["part", "part"]), ("take", some ["part", "part"]), ("times", some ["part", "part"]), ("over", some ["part", "part"]), ("rest", some ["part", "part"]), ("less", some ["part", "part"]), ("same", some ["part", "part"]), ("not", some ["part"]), ("get", some ["part"]), ("call", some ["fun", "parts"])]
structure Cn (w : World) (K : PySem.W.Frag) (mg : Str → Option Value) (base : Heap) : Prop where
  says : He.SaysT fa fn ts w K
  kin : K.In base
  ns : base.Ns mainGlobals mg
  tups : tupsB K = true
  tabs : tabsB K = true
section
variable {P : Program} {w : World} {K : PySem.W.Frag} {mg : Str → Option Value} {base : Heap}
theorem Cn.m_super (C : Cn w K mg base) : mg "super" = none := He.free_ok C.kin C.ns (C.says.d.fact 96)
theorem Cn.m_isinstance (C : Cn w K mg base) : mg "isinstance" = none := He.free_ok C.kin C.ns (C.says.d.fact 97)
theorem Cn.m_int (C : Cn w K mg base) : mg "int" = none := He.free_ok C.kin C.ns (C.says.d.fact 98)
theorem Cn.m_bool (C : Cn w K mg base) : mg "bool" = none := He.free_ok C.kin C.ns (C.says.d.fact 99)
theorem Cn.m_list (C : Cn w K mg base) : mg "list" = none := He.free_ok C.kin C.ns (C.says.d.fact 100)
theorem Cn.m_zip (C : Cn w K mg base) : mg "zip" = none := He.free_ok C.kin C.ns (C.says.d.fact 101)
theorem Cn.m_tuple (C : Cn w K mg base) : mg "tuple" = none := He.free_ok C.kin C.ns (C.says.d.fact 102)
theorem Cn.m_len (C : Cn w K mg base) : mg "len" = none := He.free_ok C.kin C.ns (C.says.d.fact 103)
theorem Cn.m_enumerate (C : Cn w K mg base) : mg "enumerate" = none := He.free_ok C.kin C.ns (C.says.d.fact 104)
theorem Cn.m_reversed (C : Cn w K mg base) : mg "reversed" = none := He.free_ok C.kin C.ns (C.says.d.fact 105)
theorem Cn.m_str (C : Cn w K mg base) : mg "str" = none := He.free_ok C.kin C.ns (C.says.d.fact 106)
theorem Cn.m_abs (C : Cn w K mg base) : mg "abs" = none := He.free_ok C.kin C.ns (C.says.d.fact 107)
theorem Cn.m_range (C : Cn w K mg base) : mg "range" = none := He.free_ok C.kin C.ns (C.says.d.fact 108)
theorem Cn.m_sum (C : Cn w K mg base) : mg "sum" = none := He.free_ok C.kin C.ns (C.says.d.fact 109)
theorem Cn.m_min (C : Cn w K mg base) : mg "min" = none := He.free_ok C.kin C.ns (C.says.d.fact 110)
theorem Cn.i_MOST_FUNS (C : Cn w K mg base) : ∃ t, mg "MOST_FUNS" = some (.int (8) t) := He.int_ok C.kin C.ns (C.says.d.fact 83)
theorem Cn.i_MOST_PARAMS (C : Cn w K mg base) : ∃ t, mg "MOST_PARAMS" = some (.int (4) t) := He.int_ok C.kin C.ns (C.says.d.fact 84)
theorem Cn.i_MOST_NAMES (C : Cn w K mg base) : ∃ t, mg "MOST_NAMES" = some (.int (8) t) := He.int_ok C.kin C.ns (C.says.d.fact 85)
theorem Cn.i_MOST_THINGS (C : Cn w K mg base) : ∃ t, mg "MOST_THINGS" = some (.int (200) t) := He.int_ok C.kin C.ns (C.says.d.fact 86)
theorem Cn.i_MOST_DEEDS_AROUND (C : Cn w K mg base) : ∃ t, mg "MOST_DEEDS_AROUND" = some (.int (7) t) := He.int_ok C.kin C.ns (C.says.d.fact 87)
theorem Cn.i_MOST_PARTS (C : Cn w K mg base) : ∃ t, mg "MOST_PARTS" = some (.int (40) t) := He.int_ok C.kin C.ns (C.says.d.fact 88)
theorem Cn.i_MOST_NUM (C : Cn w K mg base) : ∃ t, mg "MOST_NUM" = some (.int (1000000) t) := He.int_ok C.kin C.ns (C.says.d.fact 89)
theorem Cn.i_MOST_FUEL (C : Cn w K mg base) : ∃ t, mg "MOST_FUEL" = some (.int (3000) t) := He.int_ok C.kin C.ns (C.says.d.fact 90)
theorem Cn.i_A_PART (C : Cn w K mg base) : ∃ t, mg "A_PART" = some (.int (-1) t) := He.int_ok C.kin C.ns (C.says.d.fact 91)
theorem Cn.i_LEAST (C : Cn w K mg base) : ∃ t, mg "LEAST" = some (.int (-1000000000) t) := He.int_ok C.kin C.ns (C.says.d.fact 92)
theorem Cn.i_SPAN (C : Cn w K mg base) : ∃ t, mg "SPAN" = some (.int (2000000000) t) := He.int_ok C.kin C.ns (C.says.d.fact 93)
theorem Cn.i_MANY_CELLS (C : Cn w K mg base) : ∃ t, mg "MANY_CELLS" = some (.int (64) t) := He.int_ok C.kin C.ns (C.says.d.fact 94)
theorem Cn.i_MOST_WAITING (C : Cn w K mg base) : ∃ t, mg "MOST_WAITING" = some (.int (60) t) := He.int_ok C.kin C.ns (C.says.d.fact 95)
theorem Cn.g_NUMBER_PLACES (C : Cn w K mg base) : mg "NUMBER_PLACES" = some (.ref (He.ga K "NUMBER_PLACES")) := He.glo_ok C.kin C.ns (C.says.d.fact 81)
theorem Cn.t_NUMBER_PLACES (C : Cn w K mg base) (H : Hp) : SqT K H (He.ga K "NUMBER_PLACES") [V.str "n", V.str "name", V.str "fun"] := Bq.modTup_ok (He.ba C.tups).1 H
theorem Cn.g_TUPLE_PLACES (C : Cn w K mg base) : mg "TUPLE_PLACES" = some (.ref (He.ga K "TUPLE_PLACES")) := He.glo_ok C.kin C.ns (C.says.d.fact 82)
theorem Cn.t_TUPLE_PLACES (C : Cn w K mg base) (H : Hp) : SqT K H (He.ga K "TUPLE_PLACES") [V.str "body", V.str "parts"] := Bq.modTup_ok (He.ba C.tups).2 H
theorem Cn.g_DEEDS (C : Cn w K mg base) : mg "DEEDS" = some (.ref (He.ga K "DEEDS")) := He.glo_ok C.kin C.ns (C.says.d.fact 79)
theorem Cn.k_DEEDS (C : Cn w K mg base) : ∃ es n, KDict K w (He.ga K "DEEDS") es n := C.says.tab 0
theorem Cn.v_DEEDS (C : Cn w K mg base) : Bq.modTab K "DEEDS" [("set", some ["name", "part"]), ("put", some ["part", "part"]), ("say", some ["part"]), ("if", some ["part", "body", "body"]), ("while", some ["part", "body"]), ("return", some ["part"]), ("do", some ["part"]), ("num", none), ("name", none), ("add", none), ("take", none), ("times", none), ("over", none), ("rest", none), ("less", none), ("same", none), ("not", none), ("get", none), ("call", none)] = true := (He.ba C.tabs).1
theorem Cn.g_PARTS (C : Cn w K mg base) : mg "PARTS" = some (.ref (He.ga K "PARTS")) := He.glo_ok C.kin C.ns (C.says.d.fact 80)
theorem Cn.k_PARTS (C : Cn w K mg base) : ∃ es n, KDict K w (He.ga K "PARTS") es n := C.says.tab 1
theorem Cn.v_PARTS (C : Cn w K mg base) : Bq.modTab K "PARTS" [("set", none), ("put", none), ("say", none), ("if", none), ("while", none), ("return", none), ("do", none), ("num", some ["n"]), ("name", some ["name"]), ("add", some ["part", "part"]), ("take", some ["part", "part"]), ("times", some ["part", "part"]), ("over", some ["part", "part"]), ("rest", some ["part", "part"]), ("less", some ["part", "part"]), ("same", some ["part", "part"]), ("not", some ["part"]), ("get", some ["part"]), ("call", some ["fun", "parts"])] = true := (He.ba C.tabs).2
theorem Cn.cg_World (C : Cn w K mg base) : mg "World" = some (.ref (He.ga K "World")) := He.glo_ok C.kin C.ns (C.says.d.fact 60)
theorem Cn.cl_World (C : Cn w K mg base) : Cls K (He.ga K "World") := He.cls_ok (C.says.d.fact 61)
theorem Cn.mk_World (C : Cn w K mg base) : Mk K (He.ga K "World") (He.ma K (He.ga K "World") "__init__") := He.mkr_ok (C.says.d.fact 62)
theorem Cn.na_World_cells (C : Cn w K mg base) : NoAttr K (He.ga K "World") "cells" := He.noat_ok (C.says.d.fact 63)
theorem Cn.na_World_fuel (C : Cn w K mg base) : NoAttr K (He.ga K "World") "fuel" := He.noat_ok (C.says.d.fact 64)
theorem Cn.na_World_said (C : Cn w K mg base) : NoAttr K (He.ga K "World") "said" := He.noat_ok (C.says.d.fact 65)
theorem Cn.cg_Frame (C : Cn w K mg base) : mg "Frame" = some (.ref (He.ga K "Frame")) := He.glo_ok C.kin C.ns (C.says.d.fact 66)
theorem Cn.cl_Frame (C : Cn w K mg base) : Cls K (He.ga K "Frame") := He.cls_ok (C.says.d.fact 67)
theorem Cn.mk_Frame (C : Cn w K mg base) : Mk K (He.ga K "Frame") (He.ma K (He.ga K "Frame") "__init__") := He.mkr_ok (C.says.d.fact 68)
theorem Cn.na_Frame_names (C : Cn w K mg base) : NoAttr K (He.ga K "Frame") "names" := He.noat_ok (C.says.d.fact 69)
theorem Cn.na_Frame_todo (C : Cn w K mg base) : NoAttr K (He.ga K "Frame") "todo" := He.noat_ok (C.says.d.fact 70)
theorem Cn.na_Frame_worths (C : Cn w K mg base) : NoAttr K (He.ga K "Frame") "worths" := He.noat_ok (C.says.d.fact 71)
theorem Cn.cg_Doing (C : Cn w K mg base) : mg "Doing" = some (.ref (He.ga K "Doing")) := He.glo_ok C.kin C.ns (C.says.d.fact 72)
theorem Cn.cl_Doing (C : Cn w K mg base) : Cls K (He.ga K "Doing") := He.cls_ok (C.says.d.fact 73)
theorem Cn.mk_Doing (C : Cn w K mg base) : Mk K (He.ga K "Doing") (He.ma K (He.ga K "Doing") "__init__") := He.mkr_ok (C.says.d.fact 74)
theorem Cn.na_Doing_frames (C : Cn w K mg base) : NoAttr K (He.ga K "Doing") "frames" := He.noat_ok (C.says.d.fact 75)
theorem Cn.na_Doing_program (C : Cn w K mg base) : NoAttr K (He.ga K "Doing") "program" := He.noat_ok (C.says.d.fact 76)
theorem Cn.na_Doing_told (C : Cn w K mg base) : NoAttr K (He.ga K "Doing") "told" := He.noat_ok (C.says.d.fact 77)
theorem Cn.na_Doing_world (C : Cn w K mg base) : NoAttr K (He.ga K "Doing") "world" := He.noat_ok (C.says.d.fact 78)
theorem Cn.f_World_init (C : Cn w K mg base) {CX : CXT} {k : Nat} {sp : Sp} (h : ∀ fd, FnP K "__init__" "World.__init__" s_World_init (He.ma K (He.ga K "World") "__init__") fd → FnOk P w K mg base CX k (He.ma K (He.ga K "World") "__init__") fd ["self", "fuel"] sp) : Bq.Ini P w K mg base CX k "World" ["self", "fuel"] sp := by
  obtain ⟨fd, F⟩ := C.says.d.def_ 14 (d := d_World_init) rfl
  exact ⟨_, _, fd, h fd F, FunD.bindsN F (fun _ _ _ _ _ _ us hl => match us, hl with | [_, _], _ => rfl), C.mk_World, C.cg_World⟩
theorem Cn.f_World_held_in (C : Cn w K mg base) {CX : CXT} {k : Nat} {sp : Sp} (h : ∀ fd, FnP K "held_in" "World.held_in" s_World_held_in (He.ma K (He.ga K "World") "held_in") fd → FnOk P w K mg base CX k (He.ma K (He.ga K "World") "held_in") fd ["self", "cell"] sp) : Bq.Mth P w K mg base CX k (He.ga K "World") "held_in" ["self", "cell"] sp := by
  obtain ⟨fd, F⟩ := C.says.d.def_ 15 (d := d_World_held_in) rfl
  exact ⟨_, fd, h fd F, FunD.bindsN F (fun _ _ _ _ _ _ us hl => match us, hl with | [_, _], _ => rfl), He.meth_ok (C.says.d.fact 14)⟩
theorem Cn.f_World_put_in (C : Cn w K mg base) {CX : CXT} {k : Nat} {sp : Sp} (h : ∀ fd, FnP K "put_in" "World.put_in" s_World_put_in (He.ma K (He.ga K "World") "put_in") fd → FnOk P w K mg base CX k (He.ma K (He.ga K "World") "put_in") fd ["self", "cell", "worth"] sp) : Bq.Mth P w K mg base CX k (He.ga K "World") "put_in" ["self", "cell", "worth"] sp := by
  obtain ⟨fd, F⟩ := C.says.d.def_ 16 (d := d_World_put_in) rfl
  exact ⟨_, fd, h fd F, FunD.bindsN F (fun _ _ _ _ _ _ us hl => match us, hl with | [_, _, _], _ => rfl), He.meth_ok (C.says.d.fact 15)⟩
theorem Cn.f_World_worth_here (C : Cn w K mg base) {CX : CXT} {k : Nat} {sp : Sp} (h : ∀ fd, FnP K "worth_here" "World.worth_here" s_World_worth_here (He.ma K (He.ga K "World") "worth_here") fd → FnOk P w K mg base CX k (He.ma K (He.ga K "World") "worth_here") fd ["self", "row", "names", "worths"] sp) : Bq.Mth P w K mg base CX k (He.ga K "World") "worth_here" ["self", "row", "names", "worths"] sp := by
  obtain ⟨fd, F⟩ := C.says.d.def_ 17 (d := d_World_worth_here) rfl
  exact ⟨_, fd, h fd F, FunD.bindsN F (fun _ _ _ _ _ _ us hl => match us, hl with | [_, _, _, _], _ => rfl), He.meth_ok (C.says.d.fact 16)⟩
theorem Cn.f_World_spend_on_call (C : Cn w K mg base) {CX : CXT} {k : Nat} {sp : Sp} (h : ∀ fd, FnP K "spend_on_call" "World.spend_on_call" s_World_spend_on_call (He.ma K (He.ga K "World") "spend_on_call") fd → FnOk P w K mg base CX k (He.ma K (He.ga K "World") "spend_on_call") fd ["self", "waiting"] sp) : Bq.Mth P w K mg base CX k (He.ga K "World") "spend_on_call" ["self", "waiting"] sp := by
  obtain ⟨fd, F⟩ := C.says.d.def_ 18 (d := d_World_spend_on_call) rfl
  exact ⟨_, fd, h fd F, FunD.bindsN F (fun _ _ _ _ _ _ us hl => match us, hl with | [_, _], _ => rfl), He.meth_ok (C.says.d.fact 17)⟩
theorem Cn.f_World_spend (C : Cn w K mg base) {CX : CXT} {k : Nat} {sp : Sp} (h : ∀ fd, FnP K "spend" "World.spend" s_World_spend (He.ma K (He.ga K "World") "spend") fd → FnOk P w K mg base CX k (He.ma K (He.ga K "World") "spend") fd ["self"] sp) : Bq.Mth P w K mg base CX k (He.ga K "World") "spend" ["self"] sp := by
  obtain ⟨fd, F⟩ := C.says.d.def_ 19 (d := d_World_spend) rfl
  exact ⟨_, fd, h fd F, FunD.bindsN F (fun _ _ _ _ _ _ us hl => match us, hl with | [_], _ => rfl), He.meth_ok (C.says.d.fact 18)⟩
theorem Cn.f_Frame_init (C : Cn w K mg base) {CX : CXT} {k : Nat} {sp : Sp} (h : ∀ fd, FnP K "__init__" "Frame.__init__" s_Frame_init (He.ma K (He.ga K "Frame") "__init__") fd → FnOk P w K mg base CX k (He.ma K (He.ga K "Frame") "__init__") fd ["self", "fun", "handed"] sp) : Bq.Ini P w K mg base CX k "Frame" ["self", "fun", "handed"] sp := by
  obtain ⟨fd, F⟩ := C.says.d.def_ 25 (d := d_Frame_init) rfl
  exact ⟨_, _, fd, h fd F, FunD.bindsN F (fun _ _ _ _ _ _ us hl => match us, hl with | [_, _, _], _ => rfl), C.mk_Frame, C.cg_Frame⟩
theorem Cn.f_Frame_lay_ahead (C : Cn w K mg base) {CX : CXT} {k : Nat} {sp : Sp} (h : ∀ fd, FnP K "lay_ahead" "Frame.lay_ahead" s_Frame_lay_ahead (He.ma K (He.ga K "Frame") "lay_ahead") fd → FnOk P w K mg base CX k (He.ma K (He.ga K "Frame") "lay_ahead") fd ["self", "things"] sp) : Bq.Mth P w K mg base CX k (He.ga K "Frame") "lay_ahead" ["self", "things"] sp := by
  obtain ⟨fd, F⟩ := C.says.d.def_ 26 (d := d_Frame_lay_ahead) rfl
  exact ⟨_, fd, h fd F, FunD.bindsN F (fun _ _ _ _ _ _ us hl => match us, hl with | [_, _], _ => rfl), He.meth_ok (C.says.d.fact 24)⟩
theorem Cn.f_Frame_take_worths (C : Cn w K mg base) {CX : CXT} {k : Nat} {sp : Sp} (h : ∀ fd, FnP K "take_worths" "Frame.take_worths" s_Frame_take_worths (He.ma K (He.ga K "Frame") "take_worths") fd → FnOk P w K mg base CX k (He.ma K (He.ga K "Frame") "take_worths") fd ["self", "many"] sp) : Bq.Mth P w K mg base CX k (He.ga K "Frame") "take_worths" ["self", "many"] sp := by
  obtain ⟨fd, F⟩ := C.says.d.def_ 27 (d := d_Frame_take_worths) rfl
  exact ⟨_, fd, h fd F, FunD.bindsN F (fun _ _ _ _ _ _ us hl => match us, hl with | [_, _], _ => rfl), He.meth_ok (C.says.d.fact 25)⟩
theorem Cn.f_Doing_init (C : Cn w K mg base) {CX : CXT} {k : Nat} {sp : Sp} (h : ∀ fd, FnP K "__init__" "Doing.__init__" s_Doing_init (He.ma K (He.ga K "Doing") "__init__") fd → FnOk P w K mg base CX k (He.ma K (He.ga K "Doing") "__init__") fd ["self", "program", "world"] sp) : Bq.Ini P w K mg base CX k "Doing" ["self", "program", "world"] sp := by
  obtain ⟨fd, F⟩ := C.says.d.def_ 28 (d := d_Doing_init) rfl
  exact ⟨_, _, fd, h fd F, FunD.bindsN F (fun _ _ _ _ _ _ us hl => match us, hl with | [_, _, _], _ => rfl), C.mk_Doing, C.cg_Doing⟩
theorem Cn.f_Doing_told_at_last (C : Cn w K mg base) {CX : CXT} {k : Nat} {sp : Sp} (h : ∀ fd, FnP K "told_at_last" "Doing.told_at_last" s_Doing_told_at_last (He.ma K (He.ga K "Doing") "told_at_last") fd → FnOk P w K mg base CX k (He.ma K (He.ga K "Doing") "told_at_last") fd ["self"] sp) : Bq.Mth P w K mg base CX k (He.ga K "Doing") "told_at_last" ["self"] sp := by
  obtain ⟨fd, F⟩ := C.says.d.def_ 29 (d := d_Doing_told_at_last) rfl
  exact ⟨_, fd, h fd F, FunD.bindsN F (fun _ _ _ _ _ _ us hl => match us, hl with | [_], _ => rfl), He.meth_ok (C.says.d.fact 26)⟩
theorem Cn.f_Doing_step (C : Cn w K mg base) {CX : CXT} {k : Nat} {sp : Sp} (h : ∀ fd, FnP K "step" "Doing.step" s_Doing_step (He.ma K (He.ga K "Doing") "step") fd → FnOk P w K mg base CX k (He.ma K (He.ga K "Doing") "step") fd ["self", "frame"] sp) : Bq.Mth P w K mg base CX k (He.ga K "Doing") "step" ["self", "frame"] sp := by
  obtain ⟨fd, F⟩ := C.says.d.def_ 30 (d := d_Doing_step) rfl
  exact ⟨_, fd, h fd F, FunD.bindsN F (fun _ _ _ _ _ _ us hl => match us, hl with | [_, _], _ => rfl), He.meth_ok (C.says.d.fact 27)⟩
theorem Cn.f_Doing_finish (C : Cn w K mg base) {CX : CXT} {k : Nat} {sp : Sp} (h : ∀ fd, FnP K "finish" "Doing.finish" s_Doing_finish (He.ma K (He.ga K "Doing") "finish") fd → FnOk P w K mg base CX k (He.ma K (He.ga K "Doing") "finish") fd ["self", "frame", "thing", "worths"] sp) : Bq.Mth P w K mg base CX k (He.ga K "Doing") "finish" ["self", "frame", "thing", "worths"] sp := by
  obtain ⟨fd, F⟩ := C.says.d.def_ 31 (d := d_Doing_finish) rfl
  exact ⟨_, fd, h fd F, FunD.bindsN F (fun _ _ _ _ _ _ us hl => match us, hl with | [_, _, _, _], _ => rfl), He.meth_ok (C.says.d.fact 28)⟩
theorem Cn.f_Doing_enter (C : Cn w K mg base) {CX : CXT} {k : Nat} {sp : Sp} (h : ∀ fd, FnP K "enter" "Doing.enter" s_Doing_enter (He.ma K (He.ga K "Doing") "enter") fd → FnOk P w K mg base CX k (He.ma K (He.ga K "Doing") "enter") fd ["self", "fun", "handed"] sp) : Bq.Mth P w K mg base CX k (He.ga K "Doing") "enter" ["self", "fun", "handed"] sp := by
  obtain ⟨fd, F⟩ := C.says.d.def_ 32 (d := d_Doing_enter) rfl
  exact ⟨_, fd, h fd F, FunD.bindsN F (fun _ _ _ _ _ _ us hl => match us, hl with | [_, _, _], _ => rfl), He.meth_ok (C.says.d.fact 29)⟩
theorem Cn.f_Doing_leave (C : Cn w K mg base) {CX : CXT} {k : Nat} {sp : Sp} (h : ∀ fd, FnP K "leave" "Doing.leave" s_Doing_leave (He.ma K (He.ga K "Doing") "leave") fd → FnOk P w K mg base CX k (He.ma K (He.ga K "Doing") "leave") fd ["self", "worth"] sp) : Bq.Mth P w K mg base CX k (He.ga K "Doing") "leave" ["self", "worth"] sp := by
  obtain ⟨fd, F⟩ := C.says.d.def_ 33 (d := d_Doing_leave) rfl
  exact ⟨_, fd, h fd F, FunD.bindsN F (fun _ _ _ _ _ _ us hl => match us, hl with | [_, _], _ => rfl), He.meth_ok (C.says.d.fact 30)⟩
theorem Cn.f_is_number (C : Cn w K mg base) {CX : CXT} {k : Nat} {sp : Sp} (h : ∀ fd, FnP K "is_number" "is_number" s_is_number (He.ga K "is_number") fd → FnOk P w K mg base CX k (He.ga K "is_number") fd ["thing"] sp) : Bq.Fn P w K mg base CX k "is_number" ["thing"] sp := by
  obtain ⟨fd, F⟩ := C.says.d.def_ 0 (d := d_is_number) rfl
  exact ⟨_, fd, h fd F, FunD.bindsN F (fun _ _ _ _ _ _ us hl => match us, hl with | [_], _ => rfl), He.glo_ok C.kin C.ns (C.says.d.fact 0), F.kp⟩
theorem Cn.f_places_behind (C : Cn w K mg base) {CX : CXT} {k : Nat} {sp : Sp} (h : ∀ fd, FnP K "places_behind" "places_behind" s_places_behind (He.ga K "places_behind") fd → FnOk P w K mg base CX k (He.ga K "places_behind") fd ["word"] sp) : Bq.Fn P w K mg base CX k "places_behind" ["word"] sp := by
  obtain ⟨fd, F⟩ := C.says.d.def_ 1 (d := d_places_behind) rfl
  exact ⟨_, fd, h fd F, FunD.bindsN F (fun _ _ _ _ _ _ us hl => match us, hl with | [_], _ => rfl), He.glo_ok C.kin C.ns (C.says.d.fact 1), F.kp⟩
theorem Cn.f_parts_of (C : Cn w K mg base) {CX : CXT} {k : Nat} {sp : Sp} (h : ∀ fd, FnP K "parts_of" "parts_of" s_parts_of (He.ga K "parts_of") fd → FnOk P w K mg base CX k (He.ga K "parts_of") fd ["thing"] sp) : Bq.Fn P w K mg base CX k "parts_of" ["thing"] sp := by
  obtain ⟨fd, F⟩ := C.says.d.def_ 2 (d := d_parts_of) rfl
  exact ⟨_, fd, h fd F, FunD.bindsN F (fun _ _ _ _ _ _ us hl => match us, hl with | [_], _ => rfl), He.glo_ok C.kin C.ns (C.says.d.fact 2), F.kp⟩
theorem Cn.f_bodies_of (C : Cn w K mg base) {CX : CXT} {k : Nat} {sp : Sp} (h : ∀ fd, FnP K "bodies_of" "bodies_of" s_bodies_of (He.ga K "bodies_of") fd → FnOk P w K mg base CX k (He.ga K "bodies_of") fd ["thing"] sp) : Bq.Fn P w K mg base CX k "bodies_of" ["thing"] sp := by
  obtain ⟨fd, F⟩ := C.says.d.def_ 3 (d := d_bodies_of) rfl
  exact ⟨_, fd, h fd F, FunD.bindsN F (fun _ _ _ _ _ _ us hl => match us, hl with | [_], _ => rfl), He.glo_ok C.kin C.ns (C.says.d.fact 3), F.kp⟩
theorem Cn.f_check_program (C : Cn w K mg base) {CX : CXT} {k : Nat} {sp : Sp} (h : ∀ fd, FnP K "check_program" "check_program" s_check_program (He.ga K "check_program") fd → FnOk P w K mg base CX k (He.ga K "check_program") fd ["program"] sp) : Bq.Fn P w K mg base CX k "check_program" ["program"] sp := by
  obtain ⟨fd, F⟩ := C.says.d.def_ 4 (d := d_check_program) rfl
  exact ⟨_, fd, h fd F, FunD.bindsN F (fun _ _ _ _ _ _ us hl => match us, hl with | [_], _ => rfl), He.glo_ok C.kin C.ns (C.says.d.fact 4), F.kp⟩
theorem Cn.f_check_fuel (C : Cn w K mg base) {CX : CXT} {k : Nat} {sp : Sp} (h : ∀ fd, FnP K "check_fuel" "check_fuel" s_check_fuel (He.ga K "check_fuel") fd → FnOk P w K mg base CX k (He.ga K "check_fuel") fd ["fuel"] sp) : Bq.Fn P w K mg base CX k "check_fuel" ["fuel"] sp := by
  obtain ⟨fd, F⟩ := C.says.d.def_ 5 (d := d_check_fuel) rfl
  exact ⟨_, fd, h fd F, FunD.bindsN F (fun _ _ _ _ _ _ us hl => match us, hl with | [_], _ => rfl), He.glo_ok C.kin C.ns (C.says.d.fact 5), F.kp⟩
theorem Cn.f_params_of (C : Cn w K mg base) {CX : CXT} {k : Nat} {sp : Sp} (h : ∀ fd, FnP K "params_of" "params_of" s_params_of (He.ga K "params_of") fd → FnOk P w K mg base CX k (He.ga K "params_of") fd ["fun"] sp) : Bq.Fn P w K mg base CX k "params_of" ["fun"] sp := by
  obtain ⟨fd, F⟩ := C.says.d.def_ 6 (d := d_params_of) rfl
  exact ⟨_, fd, h fd F, FunD.bindsN F (fun _ _ _ _ _ _ us hl => match us, hl with | [_], _ => rfl), He.glo_ok C.kin C.ns (C.says.d.fact 6), F.kp⟩
theorem Cn.f_fun_flaw (C : Cn w K mg base) {CX : CXT} {k : Nat} {sp : Sp} (h : ∀ fd, FnP K "fun_flaw" "fun_flaw" s_fun_flaw (He.ga K "fun_flaw") fd → FnOk P w K mg base CX k (He.ga K "fun_flaw") fd ["number", "fun", "params"] sp) : Bq.Fn P w K mg base CX k "fun_flaw" ["number", "fun", "params"] sp := by
  obtain ⟨fd, F⟩ := C.says.d.def_ 7 (d := d_fun_flaw) rfl
  exact ⟨_, fd, h fd F, FunD.bindsN F (fun _ _ _ _ _ _ us hl => match us, hl with | [_, _, _], _ => rfl), He.glo_ok C.kin C.ns (C.says.d.fact 7), F.kp⟩
theorem Cn.f_body_flaw (C : Cn w K mg base) {CX : CXT} {k : Nat} {sp : Sp} (h : ∀ fd, FnP K "body_flaw" "body_flaw" s_body_flaw (He.ga K "body_flaw") fd → FnOk P w K mg base CX k (He.ga K "body_flaw") fd ["body", "names", "params"] sp) : Bq.Fn P w K mg base CX k "body_flaw" ["body", "names", "params"] sp := by
  obtain ⟨fd, F⟩ := C.says.d.def_ 8 (d := d_body_flaw) rfl
  exact ⟨_, fd, h fd F, FunD.bindsN F (fun _ _ _ _ _ _ us hl => match us, hl with | [_, _, _], _ => rfl), He.glo_ok C.kin C.ns (C.says.d.fact 8), F.kp⟩
theorem Cn.f_things_within (C : Cn w K mg base) {CX : CXT} {k : Nat} {sp : Sp} (h : ∀ fd, FnP K "things_within" "things_within" s_things_within (He.ga K "things_within") fd → FnOk P w K mg base CX k (He.ga K "things_within") fd ["thing", "around"] sp) : Bq.Fn P w K mg base CX k "things_within" ["thing", "around"] sp := by
  obtain ⟨fd, F⟩ := C.says.d.def_ 9 (d := d_things_within) rfl
  exact ⟨_, fd, h fd F, FunD.bindsN F (fun _ _ _ _ _ _ us hl => match us, hl with | [_, _], _ => rfl), He.glo_ok C.kin C.ns (C.says.d.fact 9), F.kp⟩
theorem Cn.f_bound_flaw (C : Cn w K mg base) {CX : CXT} {k : Nat} {sp : Sp} (h : ∀ fd, FnP K "bound_flaw" "bound_flaw" s_bound_flaw (He.ga K "bound_flaw") fd → FnOk P w K mg base CX k (He.ga K "bound_flaw") fd ["at", "around", "wide"] sp) : Bq.Fn P w K mg base CX k "bound_flaw" ["at", "around", "wide"] sp := by
  obtain ⟨fd, F⟩ := C.says.d.def_ 10 (d := d_bound_flaw) rfl
  exact ⟨_, fd, h fd F, FunD.bindsN F (fun _ _ _ _ _ _ us hl => match us, hl with | [_, _, _], _ => rfl), He.glo_ok C.kin C.ns (C.says.d.fact 10), F.kp⟩
theorem Cn.f_shape_flaw (C : Cn w K mg base) {CX : CXT} {k : Nat} {sp : Sp} (h : ∀ fd, FnP K "shape_flaw" "shape_flaw" s_shape_flaw (He.ga K "shape_flaw") fd → FnOk P w K mg base CX k (He.ga K "shape_flaw") fd ["thing", "around"] sp) : Bq.Fn P w K mg base CX k "shape_flaw" ["thing", "around"] sp := by
  obtain ⟨fd, F⟩ := C.says.d.def_ 11 (d := d_shape_flaw) rfl
  exact ⟨_, fd, h fd F, FunD.bindsN F (fun _ _ _ _ _ _ us hl => match us, hl with | [_, _], _ => rfl), He.glo_ok C.kin C.ns (C.says.d.fact 11), F.kp⟩
theorem Cn.f_number_flaw (C : Cn w K mg base) {CX : CXT} {k : Nat} {sp : Sp} (h : ∀ fd, FnP K "number_flaw" "number_flaw" s_number_flaw (He.ga K "number_flaw") fd → FnOk P w K mg base CX k (He.ga K "number_flaw") fd ["thing", "names", "params"] sp) : Bq.Fn P w K mg base CX k "number_flaw" ["thing", "names", "params"] sp := by
  obtain ⟨fd, F⟩ := C.says.d.def_ 12 (d := d_number_flaw) rfl
  exact ⟨_, fd, h fd F, FunD.bindsN F (fun _ _ _ _ _ _ us hl => match us, hl with | [_, _, _], _ => rfl), He.glo_ok C.kin C.ns (C.says.d.fact 12), F.kp⟩
theorem Cn.f_takes (C : Cn w K mg base) {CX : CXT} {k : Nat} {sp : Sp} (h : ∀ fd, FnP K "takes" "takes" s_takes (He.ga K "takes") fd → FnOk P w K mg base CX k (He.ga K "takes") fd ["fun", "many", "params"] sp) : Bq.Fn P w K mg base CX k "takes" ["fun", "many", "params"] sp := by
  obtain ⟨fd, F⟩ := C.says.d.def_ 13 (d := d_takes) rfl
  exact ⟨_, fd, h fd F, FunD.bindsN F (fun _ _ _ _ _ _ us hl => match us, hl with | [_, _, _], _ => rfl), He.glo_ok C.kin C.ns (C.says.d.fact 13), F.kp⟩
theorem Cn.f_check_cell (C : Cn w K mg base) {CX : CXT} {k : Nat} {sp : Sp} (h : ∀ fd, FnP K "check_cell" "check_cell" s_check_cell (He.ga K "check_cell") fd → FnOk P w K mg base CX k (He.ga K "check_cell") fd ["cell"] sp) : Bq.Fn P w K mg base CX k "check_cell" ["cell"] sp := by
  obtain ⟨fd, F⟩ := C.says.d.def_ 20 (d := d_check_cell) rfl
  exact ⟨_, fd, h fd F, FunD.bindsN F (fun _ _ _ _ _ _ us hl => match us, hl with | [_], _ => rfl), He.glo_ok C.kin C.ns (C.says.d.fact 19), F.kp⟩
theorem Cn.f_in_stretch (C : Cn w K mg base) {CX : CXT} {k : Nat} {sp : Sp} (h : ∀ fd, FnP K "in_stretch" "in_stretch" s_in_stretch (He.ga K "in_stretch") fd → FnOk P w K mg base CX k (He.ga K "in_stretch") fd ["number"] sp) : Bq.Fn P w K mg base CX k "in_stretch" ["number"] sp := by
  obtain ⟨fd, F⟩ := C.says.d.def_ 21 (d := d_in_stretch) rfl
  exact ⟨_, fd, h fd F, FunD.bindsN F (fun _ _ _ _ _ _ us hl => match us, hl with | [_], _ => rfl), He.glo_ok C.kin C.ns (C.says.d.fact 20), F.kp⟩
theorem Cn.f_worth_of (C : Cn w K mg base) {CX : CXT} {k : Nat} {sp : Sp} (h : ∀ fd, FnP K "worth_of" "worth_of" s_worth_of (He.ga K "worth_of") fd → FnOk P w K mg base CX k (He.ga K "worth_of") fd ["word", "worths"] sp) : Bq.Fn P w K mg base CX k "worth_of" ["word", "worths"] sp := by
  obtain ⟨fd, F⟩ := C.says.d.def_ 22 (d := d_worth_of) rfl
  exact ⟨_, fd, h fd F, FunD.bindsN F (fun _ _ _ _ _ _ us hl => match us, hl with | [_, _], _ => rfl), He.glo_ok C.kin C.ns (C.says.d.fact 21), F.kp⟩
theorem Cn.f_divided (C : Cn w K mg base) {CX : CXT} {k : Nat} {sp : Sp} (h : ∀ fd, FnP K "divided" "divided" s_divided (He.ga K "divided") fd → FnOk P w K mg base CX k (He.ga K "divided") fd ["word", "one", "other"] sp) : Bq.Fn P w K mg base CX k "divided" ["word", "one", "other"] sp := by
  obtain ⟨fd, F⟩ := C.says.d.def_ 23 (d := d_divided) rfl
  exact ⟨_, fd, h fd F, FunD.bindsN F (fun _ _ _ _ _ _ us hl => match us, hl with | [_, _, _], _ => rfl), He.glo_ok C.kin C.ns (C.says.d.fact 22), F.kp⟩
theorem Cn.f_run (C : Cn w K mg base) {CX : CXT} {k : Nat} {sp : Sp} (h : ∀ fd, FnP K "run" "run" s_run (He.ga K "run") fd → FnOk P w K mg base CX k (He.ga K "run") fd ["program", "fuel"] sp) : Bq.Fn P w K mg base CX k "run" ["program", "fuel"] sp := by
  obtain ⟨fd, F⟩ := C.says.d.def_ 24 (d := d_run) rfl
  exact ⟨_, fd, h fd F, FunD.bindsN F (fun _ _ _ _ _ _ us hl => match us, hl with | [_, _], _ => rfl), He.glo_ok C.kin C.ns (C.says.d.fact 23), F.kp⟩
theorem Cn.f_law_dice (C : Cn w K mg base) {CX : CXT} {k : Nat} {sp : Sp} (h : ∀ fd, FnP K "_law_dice" "_law_dice" s_law_dice (He.ga K "_law_dice") fd → FnOk P w K mg base CX k (He.ga K "_law_dice") fd ["_law_script"] sp) : Bq.Fn P w K mg base CX k "_law_dice" ["_law_script"] sp := by
  obtain ⟨fd, F⟩ := C.says.d.def_ 34 (d := d_law_dice) rfl
  exact ⟨_, fd, h fd F, FunD.bindsN F (fun _ _ _ _ _ _ us hl => match us, hl with | [_], _ => rfl), He.glo_ok C.kin C.ns (C.says.d.fact 31), F.kp⟩
theorem Cn.f_law_next (C : Cn w K mg base) {CX : CXT} {k : Nat} {sp : Sp} (h : ∀ fd, FnP K "_law_next" "_law_next" s_law_next (He.ga K "_law_next") fd → FnOk P w K mg base CX k (He.ga K "_law_next") fd ["_law_dice_here", "_law_many"] sp) : Bq.Fn P w K mg base CX k "_law_next" ["_law_dice_here", "_law_many"] sp := by
  obtain ⟨fd, F⟩ := C.says.d.def_ 35 (d := d_law_next) rfl
  exact ⟨_, fd, h fd F, FunD.bindsN F (fun _ _ _ _ _ _ us hl => match us, hl with | [_, _], _ => rfl), He.glo_ok C.kin C.ns (C.says.d.fact 32), F.kp⟩
theorem Cn.f_law_like (C : Cn w K mg base) {CX : CXT} {k : Nat} {sp : Sp} (h : ∀ fd, FnP K "_law_like" "_law_like" s_law_like (He.ga K "_law_like") fd → FnOk P w K mg base CX k (He.ga K "_law_like") fd ["_law_found", "_law_due"] sp) : Bq.Fn P w K mg base CX k "_law_like" ["_law_found", "_law_due"] sp := by
  obtain ⟨fd, F⟩ := C.says.d.def_ 36 (d := d_law_like) rfl
  exact ⟨_, fd, h fd F, FunD.bindsN F (fun _ _ _ _ _ _ us hl => match us, hl with | [_, _], _ => rfl), He.glo_ok C.kin C.ns (C.says.d.fact 33), F.kp⟩
theorem Cn.f_law_leaf (C : Cn w K mg base) {CX : CXT} {k : Nat} {sp : Sp} (h : ∀ fd, FnP K "_law_leaf" "_law_leaf" s_law_leaf (He.ga K "_law_leaf") fd → FnOk P w K mg base CX k (He.ga K "_law_leaf") fd ["_law_d", "_law_names"] sp) : Bq.Fn P w K mg base CX k "_law_leaf" ["_law_d", "_law_names"] sp := by
  obtain ⟨fd, F⟩ := C.says.d.def_ 37 (d := d_law_leaf) rfl
  exact ⟨_, fd, h fd F, FunD.bindsN F (fun _ _ _ _ _ _ us hl => match us, hl with | [_, _], _ => rfl), He.glo_ok C.kin C.ns (C.says.d.fact 34), F.kp⟩
theorem Cn.f_law_part (C : Cn w K mg base) {CX : CXT} {k : Nat} {sp : Sp} (h : ∀ fd, FnP K "_law_part" "_law_part" s_law_part (He.ga K "_law_part") fd → FnOk P w K mg base CX k (He.ga K "_law_part") fd ["_law_d", "_law_w", "_law_room"] sp) : Bq.Fn P w K mg base CX k "_law_part" ["_law_d", "_law_w", "_law_room"] sp := by
  obtain ⟨fd, F⟩ := C.says.d.def_ 38 (d := d_law_part) rfl
  exact ⟨_, fd, h fd F, FunD.bindsN F (fun _ _ _ _ _ _ us hl => match us, hl with | [_, _, _], _ => rfl), He.glo_ok C.kin C.ns (C.says.d.fact 35), F.kp⟩
theorem Cn.f_law_one (C : Cn w K mg base) {CX : CXT} {k : Nat} {sp : Sp} (h : ∀ fd, FnP K "_law_one" "_law_one" s_law_one (He.ga K "_law_one") fd → FnOk P w K mg base CX k (He.ga K "_law_one") fd ["_law_d", "_law_w", "_law_most"] sp) : Bq.Fn P w K mg base CX k "_law_one" ["_law_d", "_law_w", "_law_most"] sp := by
  obtain ⟨fd, F⟩ := C.says.d.def_ 39 (d := d_law_one) rfl
  exact ⟨_, fd, h fd F, FunD.bindsN F (fun _ _ _ _ _ _ us hl => match us, hl with | [_, _, _], _ => rfl), He.glo_ok C.kin C.ns (C.says.d.fact 36), F.kp⟩
theorem Cn.f_law_deed (C : Cn w K mg base) {CX : CXT} {k : Nat} {sp : Sp} (h : ∀ fd, FnP K "_law_deed" "_law_deed" s_law_deed (He.ga K "_law_deed") fd → FnOk P w K mg base CX k (He.ga K "_law_deed") fd ["_law_d", "_law_w", "_law_deep"] sp) : Bq.Fn P w K mg base CX k "_law_deed" ["_law_d", "_law_w", "_law_deep"] sp := by
  obtain ⟨fd, F⟩ := C.says.d.def_ 40 (d := d_law_deed) rfl
  exact ⟨_, fd, h fd F, FunD.bindsN F (fun _ _ _ _ _ _ us hl => match us, hl with | [_, _, _], _ => rfl), He.glo_ok C.kin C.ns (C.says.d.fact 37), F.kp⟩
theorem Cn.f_law_while (C : Cn w K mg base) {CX : CXT} {k : Nat} {sp : Sp} (h : ∀ fd, FnP K "_law_while" "_law_while" s_law_while (He.ga K "_law_while") fd → FnOk P w K mg base CX k (He.ga K "_law_while") fd ["_law_d", "_law_w", "_law_deep"] sp) : Bq.Fn P w K mg base CX k "_law_while" ["_law_d", "_law_w", "_law_deep"] sp := by
  obtain ⟨fd, F⟩ := C.says.d.def_ 41 (d := d_law_while) rfl
  exact ⟨_, fd, h fd F, FunD.bindsN F (fun _ _ _ _ _ _ us hl => match us, hl with | [_, _, _], _ => rfl), He.glo_ok C.kin C.ns (C.says.d.fact 38), F.kp⟩
theorem Cn.f_law_body (C : Cn w K mg base) {CX : CXT} {k : Nat} {sp : Sp} (h : ∀ fd, FnP K "_law_body" "_law_body" s_law_body (He.ga K "_law_body") fd → FnOk P w K mg base CX k (He.ga K "_law_body") fd ["_law_d", "_law_w", "_law_deep"] sp) : Bq.Fn P w K mg base CX k "_law_body" ["_law_d", "_law_w", "_law_deep"] sp := by
  obtain ⟨fd, F⟩ := C.says.d.def_ 42 (d := d_law_body) rfl
  exact ⟨_, fd, h fd F, FunD.bindsN F (fun _ _ _ _ _ _ us hl => match us, hl with | [_, _, _], _ => rfl), He.glo_ok C.kin C.ns (C.says.d.fact 39), F.kp⟩
theorem Cn.f_law_things (C : Cn w K mg base) {CX : CXT} {k : Nat} {sp : Sp} (h : ∀ fd, FnP K "_law_things" "_law_things" s_law_things (He.ga K "_law_things") fd → FnOk P w K mg base CX k (He.ga K "_law_things") fd ["_law_thing"] sp) : Bq.Fn P w K mg base CX k "_law_things" ["_law_thing"] sp := by
  obtain ⟨fd, F⟩ := C.says.d.def_ 43 (d := d_law_things) rfl
  exact ⟨_, fd, h fd F, FunD.bindsN F (fun _ _ _ _ _ _ us hl => match us, hl with | [_], _ => rfl), He.glo_ok C.kin C.ns (C.says.d.fact 40), F.kp⟩
theorem Cn.f_law_tower (C : Cn w K mg base) {CX : CXT} {k : Nat} {sp : Sp} (h : ∀ fd, FnP K "_law_tower" "_law_tower" s_law_tower (He.ga K "_law_tower") fd → FnOk P w K mg base CX k (He.ga K "_law_tower") fd ["_law_d", "_law_body_here"] sp) : Bq.Fn P w K mg base CX k "_law_tower" ["_law_d", "_law_body_here"] sp := by
  obtain ⟨fd, F⟩ := C.says.d.def_ 44 (d := d_law_tower) rfl
  exact ⟨_, fd, h fd F, FunD.bindsN F (fun _ _ _ _ _ _ us hl => match us, hl with | [_, _], _ => rfl), He.glo_ok C.kin C.ns (C.says.d.fact 41), F.kp⟩
theorem Cn.f_law_program (C : Cn w K mg base) {CX : CXT} {k : Nat} {sp : Sp} (h : ∀ fd, FnP K "_law_program" "_law_program" s_law_program (He.ga K "_law_program") fd → FnOk P w K mg base CX k (He.ga K "_law_program") fd ["_law_d"] sp) : Bq.Fn P w K mg base CX k "_law_program" ["_law_d"] sp := by
  obtain ⟨fd, F⟩ := C.says.d.def_ 45 (d := d_law_program) rfl
  exact ⟨_, fd, h fd F, FunD.bindsN F (fun _ _ _ _ _ _ us hl => match us, hl with | [_], _ => rfl), He.glo_ok C.kin C.ns (C.says.d.fact 42), F.kp⟩
theorem Cn.f_law_ring (C : Cn w K mg base) {CX : CXT} {k : Nat} {sp : Sp} (h : ∀ fd, FnP K "_law_ring" "_law_ring" s_law_ring (He.ga K "_law_ring") fd → FnOk P w K mg base CX k (He.ga K "_law_ring") fd ["_law_number"] sp) : Bq.Fn P w K mg base CX k "_law_ring" ["_law_number"] sp := by
  obtain ⟨fd, F⟩ := C.says.d.def_ 46 (d := d_law_ring) rfl
  exact ⟨_, fd, h fd F, FunD.bindsN F (fun _ _ _ _ _ _ us hl => match us, hl with | [_], _ => rfl), He.glo_ok C.kin C.ns (C.says.d.fact 43), F.kp⟩
theorem Cn.f_law_pair (C : Cn w K mg base) {CX : CXT} {k : Nat} {sp : Sp} (h : ∀ fd, FnP K "_law_pair" "_law_pair" s_law_pair (He.ga K "_law_pair") fd → FnOk P w K mg base CX k (He.ga K "_law_pair") fd ["_law_word", "_law_one_here", "_law_other"] sp) : Bq.Fn P w K mg base CX k "_law_pair" ["_law_word", "_law_one_here", "_law_other"] sp := by
  obtain ⟨fd, F⟩ := C.says.d.def_ 47 (d := d_law_pair) rfl
  exact ⟨_, fd, h fd F, FunD.bindsN F (fun _ _ _ _ _ _ us hl => match us, hl with | [_, _, _], _ => rfl), He.glo_ok C.kin C.ns (C.says.d.fact 44), F.kp⟩
theorem Cn.f_law_fresh (C : Cn w K mg base) {CX : CXT} {k : Nat} {sp : Sp} (h : ∀ fd, FnP K "_law_fresh" "_law_fresh" s_law_fresh (He.ga K "_law_fresh") fd → FnOk P w K mg base CX k (He.ga K "_law_fresh") fd ["_law_program_here", "_law_fuel_here"] sp) : Bq.Fn P w K mg base CX k "_law_fresh" ["_law_program_here", "_law_fuel_here"] sp := by
  obtain ⟨fd, F⟩ := C.says.d.def_ 48 (d := d_law_fresh) rfl
  exact ⟨_, fd, h fd F, FunD.bindsN F (fun _ _ _ _ _ _ us hl => match us, hl with | [_, _], _ => rfl), He.glo_ok C.kin C.ns (C.says.d.fact 45), F.kp⟩
theorem Cn.f_law_inner (C : Cn w K mg base) {CX : CXT} {k : Nat} {sp : Sp} (h : ∀ fd, FnP K "_law_inner" "_law_inner" s_law_inner (He.ga K "_law_inner") fd → FnOk P w K mg base CX k (He.ga K "_law_inner") fd ["_law_thing"] sp) : Bq.Fn P w K mg base CX k "_law_inner" ["_law_thing"] sp := by
  obtain ⟨fd, F⟩ := C.says.d.def_ 49 (d := d_law_inner) rfl
  exact ⟨_, fd, h fd F, FunD.bindsN F (fun _ _ _ _ _ _ us hl => match us, hl with | [_], _ => rfl), He.glo_ok C.kin C.ns (C.says.d.fact 46), F.kp⟩
theorem Cn.f_law_go (C : Cn w K mg base) {CX : CXT} {k : Nat} {sp : Sp} (h : ∀ fd, FnP K "_law_go" "_law_go" s_law_go (He.ga K "_law_go") fd → FnOk P w K mg base CX k (He.ga K "_law_go") fd ["_law_w"] sp) : Bq.Fn P w K mg base CX k "_law_go" ["_law_w"] sp := by
  obtain ⟨fd, F⟩ := C.says.d.def_ 50 (d := d_law_go) rfl
  exact ⟨_, fd, h fd F, FunD.bindsN F (fun _ _ _ _ _ _ us hl => match us, hl with | [_], _ => rfl), He.glo_ok C.kin C.ns (C.says.d.fact 47), F.kp⟩
theorem Cn.f_law_begin (C : Cn w K mg base) {CX : CXT} {k : Nat} {sp : Sp} (h : ∀ fd, FnP K "_law_begin" "_law_begin" s_law_begin (He.ga K "_law_begin") fd → FnOk P w K mg base CX k (He.ga K "_law_begin") fd ["_law_w", "_law_thing", "_law_worths"] sp) : Bq.Fn P w K mg base CX k "_law_begin" ["_law_w", "_law_thing", "_law_worths"] sp := by
  obtain ⟨fd, F⟩ := C.says.d.def_ 51 (d := d_law_begin) rfl
  exact ⟨_, fd, h fd F, FunD.bindsN F (fun _ _ _ _ _ _ us hl => match us, hl with | [_, _, _], _ => rfl), He.glo_ok C.kin C.ns (C.says.d.fact 48), F.kp⟩
theorem Cn.f_law_goes (C : Cn w K mg base) {CX : CXT} {k : Nat} {sp : Sp} (h : ∀ fd, FnP K "_law_goes" "_law_goes" s_law_goes (He.ga K "_law_goes") fd → FnOk P w K mg base CX k (He.ga K "_law_goes") fd ["_law_w"] sp) : Bq.Fn P w K mg base CX k "_law_goes" ["_law_w"] sp := by
  obtain ⟨fd, F⟩ := C.says.d.def_ 52 (d := d_law_goes) rfl
  exact ⟨_, fd, h fd F, FunD.bindsN F (fun _ _ _ _ _ _ us hl => match us, hl with | [_], _ => rfl), He.glo_ok C.kin C.ns (C.says.d.fact 49), F.kp⟩
theorem Cn.f_law_call (C : Cn w K mg base) {CX : CXT} {k : Nat} {sp : Sp} (h : ∀ fd, FnP K "_law_call" "_law_call" s_law_call (He.ga K "_law_call") fd → FnOk P w K mg base CX k (He.ga K "_law_call") fd ["_law_w", "_law_thing", "_law_worths"] sp) : Bq.Fn P w K mg base CX k "_law_call" ["_law_w", "_law_thing", "_law_worths"] sp := by
  obtain ⟨fd, F⟩ := C.says.d.def_ 53 (d := d_law_call) rfl
  exact ⟨_, fd, h fd F, FunD.bindsN F (fun _ _ _ _ _ _ us hl => match us, hl with | [_, _, _], _ => rfl), He.glo_ok C.kin C.ns (C.says.d.fact 50), F.kp⟩
theorem Cn.f_law_deed_done (C : Cn w K mg base) {CX : CXT} {k : Nat} {sp : Sp} (h : ∀ fd, FnP K "_law_deed_done" "_law_deed_done" s_law_deed_done (He.ga K "_law_deed_done") fd → FnOk P w K mg base CX k (He.ga K "_law_deed_done") fd ["_law_w", "_law_deed_here", "_law_worths"] sp) : Bq.Fn P w K mg base CX k "_law_deed_done" ["_law_w", "_law_deed_here", "_law_worths"] sp := by
  obtain ⟨fd, F⟩ := C.says.d.def_ 54 (d := d_law_deed_done) rfl
  exact ⟨_, fd, h fd F, FunD.bindsN F (fun _ _ _ _ _ _ us hl => match us, hl with | [_, _, _], _ => rfl), He.glo_ok C.kin C.ns (C.says.d.fact 51), F.kp⟩
theorem Cn.f_law_run (C : Cn w K mg base) {CX : CXT} {k : Nat} {sp : Sp} (h : ∀ fd, FnP K "_law_run" "_law_run" s_law_run (He.ga K "_law_run") fd → FnOk P w K mg base CX k (He.ga K "_law_run") fd ["_law_program_here", "_law_fuel_here"] sp) : Bq.Fn P w K mg base CX k "_law_run" ["_law_program_here", "_law_fuel_here"] sp := by
  obtain ⟨fd, F⟩ := C.says.d.def_ 55 (d := d_law_run) rfl
  exact ⟨_, fd, h fd F, FunD.bindsN F (fun _ _ _ _ _ _ us hl => match us, hl with | [_, _], _ => rfl), He.glo_ok C.kin C.ns (C.says.d.fact 52), F.kp⟩
theorem Cn.f_law_fuel (C : Cn w K mg base) {CX : CXT} {k : Nat} {sp : Sp} (h : ∀ fd, FnP K "_law_fuel" "_law_fuel" s_law_fuel (He.ga K "_law_fuel") fd → FnOk P w K mg base CX k (He.ga K "_law_fuel") fd ["_law_d"] sp) : Bq.Fn P w K mg base CX k "_law_fuel" ["_law_d"] sp := by
  obtain ⟨fd, F⟩ := C.says.d.def_ 56 (d := d_law_fuel) rfl
  exact ⟨_, fd, h fd F, FunD.bindsN F (fun _ _ _ _ _ _ us hl => match us, hl with | [_], _ => rfl), He.glo_ok C.kin C.ns (C.says.d.fact 53), F.kp⟩
theorem Cn.f_law (C : Cn w K mg base) {CX : CXT} {k : Nat} {sp : Sp} (h : ∀ fd, FnP K "law" "law" s_law (He.ga K "law") fd → FnOk P w K mg base CX k (He.ga K "law") fd ["_law_script"] sp) : Bq.Fn P w K mg base CX k "law" ["_law_script"] sp := by
  obtain ⟨fd, F⟩ := C.says.d.def_ 57 (d := d_law) rfl
  exact ⟨_, fd, h fd F, FunD.bindsN F (fun _ _ _ _ _ _ us hl => match us, hl with | [_], _ => rfl), He.glo_ok C.kin C.ns (C.says.d.fact 54), F.kp⟩
end
end K3
end

section
set_option maxRecDepth 100000
set_option maxHeartbeats 1000000
open Bq L2
/-- one step of a reading; what is left are side goals and places to think -/
local macro_rules | `(tactic| walk_at "g1") => `(tactic| first
  | with_reducible refine' g_seq ?_ | with_reducible refine' g_asg ?_ | with_reducible refine' g_drop ?_ | with_reducible refine' g_ret ?_ | with_reducible refine' g_ifS ?_ | with_reducible refine' g_asgG ?_
  | ((with_reducible refine' g_var ?hv ?_); (case hv => rfl))
  | with_reducible refine' g_c ?_ | with_reducible refine' g_op ?_ | with_reducible refine' g_un ?_ | with_reducible refine' g_I0 ?_ | with_reducible refine' g_U ?_
  | with_reducible refine' g_test ?_ | with_reducible refine' g_tB ?_ | with_reducible refine Exists.intro _ (And.intro rfl ?_) 
  | ((with_reducible refine' g_andP ?ha ?hb ?_); (case ha => intro R q; walk_at "g"; exact q); (case hb => intro R q; walk_at "g"; exact q))
  | ((with_reducible refine' g_orP ?ha ?hb ?_); (case ha => intro R q; walk_at "g"; exact q); (case hb => intro R q; walk_at "g"; exact q))
  | with_reducible refine' g_and ?_ | with_reducible refine' g_or ?_ | with_reducible refine' g_not ?_
  | with_reducible refine' g_andV ?_ | with_reducible refine' g_orV ?_ | with_reducible refine' g_notV ?_ | with_reducible refine' g_if ?_ | with_reducible refine' g_nil ?_ | with_reducible refine' g_cons ?_
  | with_reducible refine' g_tup ?_ | with_reducible refine' g_lst ?_ | with_reducible refine' g_CB ?_ | with_reducible refine' g_Fn ?_ | with_reducible refine' g_next ?_ | with_reducible refine' g_retN ?_
  | with_reducible refine' g_name ?_ | with_reducible refine' g_sub ?_
  | ((with_reducible refine' g_ixL ?hs ?he ?_); (case hs => walk_at "lk"); (case he => walk_at "at"))
  | ((with_reducible refine' g_ixT ?hs ?he ?_); (case hs => walk_at "lk"); (case he => walk_at "at"))
  | ((with_reducible refine' g_setL ?hs ?he ?_); (case hs => walk_at "hp"); (case he => rfl))
  | ((with_reducible refine' g_app ?hs ?hz ?_); (case hs => walk_at "hp"); (case hz => walk_at "sz"))
  | ((with_reducible refine' ⟨_, _, rfl, Or.inl ?hs, ?_⟩); (case hs => walk_at "lk"))
  | ((with_reducible refine' ⟨_, _, rfl, Or.inr ?hs, ?_⟩); (case hs => walk_at "lk"))
  | with_reducible refine' g_BM ?_ | with_reducible refine' g_BM0 ?_ | ((with_reducible refine' g_tyL ?hs ?_); (case hs => walk_at "lk"))
  | with_reducible refine' g_sl ?_ | with_reducible refine' g_noPart ?_ | with_reducible refine' g_part ?_
  | ((with_reducible refine' g_inT ?hs ?fx ?fs ?_); (case hs => walk_at "lk"); (case fx => rfl); (case fs => rfl))
  | with_reducible refine' g_pair ?_ | with_reducible refine' g_pair0 ?_ | with_reducible refine' g_disp ?_
  | with_reducible refine' g_for ?_ | with_reducible refine' g_tupC ?_ | with_reducible refine' g_lstC ?_ | ((with_reducible refine' g_lens ?_)) | with_reducible refine' g_dg ?_ | with_reducible refine' g_lc ?_ | with_reducible refine' g_rng1 ?_ | with_reducible refine' g_ilist ?_ | with_reducible refine' g_itup ?_
  | ((with_reducible refine' ⟨_, _, rfl, ?hd, ?_⟩); (case hd => walk_at "dg"))
  | ((with_reducible refine' g_eqNil ?hs ?hz ?_); (case hs => walk_at "lk"); (case hz => walk_at "lk"))
  | ((with_reducible refine' g_neNil ?hs ?hz ?_); (case hs => walk_at "lk"); (case hz => walk_at "lk"))
  | with_reducible refine Or.inl ⟨_, rfl, ?_⟩
  | with_reducible refine Or.inr ⟨_, rfl, ?_⟩
  | ((with_reducible refine' g_eq ?hs ?_); (case hs => rfl))
  | ((with_reducible refine' g_ne ?hs ?_); (case hs => rfl))
  | ((with_reducible refine' g_I ?hc ?_); (case hc => walk_at "ar")))
/-- arithmetic's side conditions -/
local macro_rules | `(tactic| walk_at "ar") => `(tactic| (first
  | (show (0 : Int) < _; first | omega | decide) | (show (0 : Int) < _ ∧ _; constructor <;> omega) | (show ¬ (_ : Int) = _; omega) | (show (_ : Int) ≠ _ ∧ _; constructor <;> omega)
  | (show (-(2 ^ 64) < _ ∧ _) ∨ _; (first | (left; constructor <;> omega) | (right; constructor <;> omega))) | (show (0 : Int) ≤ _ ∧ _ ∧ _; refine ⟨by omega, by omega, by decide⟩)))
/-- what stands at an index -/
local macro_rules | `(tactic| walk_at "at") => `(tactic| first | rfl | assumption)
/-- what stands at an address -/
local macro_rules | `(tactic| walk_at "hp") => `(tactic| first | assumption | exact upd_same | ((refine' Eq.trans (upd_ne ?hn) ?hm); (case hm => walk_at "hp"); (case hn => walk_at "ne")))
/-- two places are two -/
local macro_rules | `(tactic| walk_at "ne") => `(tactic| first
  | assumption | exact Ne.symm (by assumption)
  | ((refine' ne_of_none ?ha ?hb); (case hb => assumption); (case ha => walk_at "hp")) | ((refine' Ne.symm (ne_of_none ?ha ?hb)); (case hb => assumption); (case ha => walk_at "hp")))
/-- what a dict tells -/
local macro_rules | `(tactic| walk_at "dg") => `(tactic| first | assumption)
/-- a length -/
local macro_rules | `(tactic| walk_at "sz") => `(tactic| first | (show _ ≤ sizeLine; decide) | (show _ < sizeLine; decide) | assumption | exact szlt (by simp) | exact szle (by simp))
/-- a list or tuple that stands -/
local macro_rules | `(tactic| walk_at "lk") => `(tactic| first | assumption | exact SqL.of (by assumption) | exact SqT.of (by assumption) | exact SqL.of upd_same | exact SqT.of upd_same | (refine' FzL.sq ?hm; (case hm => walk_at "fz")))
/-- a list that nobody writes -/
local macro_rules | `(tactic| walk_at "fz") => `(tactic| first | assumption | ((refine' FzL.uw ?hm ?hx); (case hx => walk_at "hp"); (case hm => walk_at "fz")) | ((refine' FzL.nw ?hm ?hx); (case hx => assumption); (case hm => walk_at "fz")))
/-- as far as it goes by itself -/
local macro_rules | `(tactic| walk_at "g") => `(tactic| repeat walk_at "g1")
/-- the body's reading, its places in short -/
local macro_rules | `(tactic| walk_at "go") => `(tactic| ((try dsimp only [cxOf, Cx.nox, Cx.wish]); walk_at "g"))
namespace K3
open PySem PySem.Spec PyProof.Rows L2 Bq
/-! ### the dice -/
structure DiceAt (K : PySem.W.Frag) (H : Hp) (d sc : Addr) (ns : List Int) (pos mix dig : Int) : Prop where
  h : H d = some (.lst [.ref sc, .int pos, .int mix, .int dig])
  s : FzL K H sc (ns.map V.int)
  n : ns.length ≤ 63
  p0 : 0 ≤ pos
  m0 : 0 ≤ mix
  m1 : mix < 2147483647
  g0 : 0 ≤ dig
def Dice (K : PySem.W.Frag) (H : Hp) (d : Addr) : Prop := ∃ sc ns pos mix dig, DiceAt K H d sc ns pos mix dig
theorem Dice.ch {K : PySem.W.Frag} {S : List Addr} {H H1 : Hp} {d : Addr} (x : Dice K H d) (c : Ch K S H H1) (n : d ∉ S) : Dice K H1 d := by
  obtain ⟨sc, ns, pos, mix, dig, x⟩ := x
  exact ⟨sc, ns, pos, mix, dig, c.up _ _ x.h n, x.s.kt c.kt, x.n, x.p0, x.m0, x.m1, x.g0⟩
theorem Dice.nw {K : PySem.W.Frag} {H : Hp} {d p : Addr} {o : HO} (x : Dice K H d) (n : H p = none) : Dice K (upd H p o) d := x.ch (S := []) (Ch.new n) (by simp)
theorem Dice.ne {K : PySem.W.Frag} {H : Hp} {d p : Addr} (x : Dice K H d) (n : H p = none) : p ≠ d := by
  obtain ⟨_, _, _, _, _, x⟩ := x
  exact (ne_of_none x.h n).symm
theorem notin1 {a b : Addr} (h : a ≠ b) : a ∉ [b] := by simpa using h
/-- the dice written -/
theorem DiceAt.wr {K : PySem.W.Frag} {H : Hp} {d sc : Addr} {ns : List Int} {pos mix dig pos' mix' dig' : Int} (x : DiceAt K H d sc ns pos mix dig) (a : 0 ≤ pos') (b : 0 ≤ mix') (c : mix' < 2147483647) (e : 0 ≤ dig') :
    DiceAt K (upd H d (.lst [.ref sc, .int pos', .int mix', .int dig'])) d sc ns pos' mix' dig' :=
  ⟨upd_same, x.s.kt (Ch.wrL (K := K) (S := [d]) x.h (by simp)).kt, x.n, a, b, c, e⟩
def spNext (K : PySem.W.Frag) : Sp := fun vs H Q _ => ∃ d m, vs = [.ref d, .int m] ∧ Dice K H d ∧ 0 < m ∧ m < 1073741824 ∧
  ∀ H' n, Ch K [d] H H' → Dice K H' d → 0 ≤ n → n < m → Q (.int n) H'
section
variable {P : Program} {w : World} {K : PySem.W.Frag} {mg : Str → Option Value} {base : Heap}
theorem fn_next (C : Cn w K mg base) : Fn P w K mg base CX0 1 "_law_next" ["_law_dice_here", "_law_many"] (spNext K) := C.f_law_next fun fd F => by
  refine F.ok (CX := CX0) sc_law_next (fun vs H Q E h => ?_) (fun cdv A outer s H vs Q E hr h => ?_)
  · obtain ⟨d, m, rfl, _⟩ := h
    rfl
  · obtain ⟨d, m, rfl, ⟨sc, ns, pos, mix, dig, hd⟩, m0, m1, q⟩ := h
    refine ⟨_, PSs.nox (pss_cons (ps_if (pt_cmpR op_gt (pe_ix ix_list (pv 0) pe_int (fun _ _ => rfl)) pe_int (nomark _)) (pss_cons (ps_set (i := 2) sc_law_next.nd rfl (Or.inl rfl) (pe_op op_mod (pe_ix ix_list (pv 0) pe_int (fun _ _ => rfl)) (pv 1)))
      (pss_cons (ps_asg (pe_op op_fdiv (pe_ix ix_list (pv 0) pe_int (fun _ _ => rfl)) (pv 1)) (pg_sub (pv 0) pe_int set_list))
      (pss_one (ps_ret (pv 2))))) pss_nil)
      (pss_cons (ps_asg (pe_op op_add (pe_ix ix_list (pv 0) pe_int (fun _ _ => rfl)) pe_int) (pg_sub (pv 0) pe_int set_list))
      (pss_cons (ps_if (pt_cmpR op_le (pe_ix ix_list (pv 0) pe_int (fun _ _ => rfl)) (pe_callB call_len_seq (by rfl) (C.m_len) PySem.boot_len (pa_cons (pe_ix ix_list (pv 0) pe_int (fun _ _ => rfl)) pa_nil)) (nomark _)) (pss_cons (ps_set (i := 3) sc_law_next.nd rfl (Or.inl rfl) (pe_ix ix_list (pe_ix ix_list (pv 0) pe_int (fun _ _ => rfl)) (pe_op op_sub (pe_ix ix_list (pv 0) pe_int (fun _ _ => rfl)) pe_int) (fun _ _ => rfl)))
      (pss_cons (ps_asg (pe_ifExp (pt_cmpR op_ge (pv 3) (pe_op op_pow pe_int pe_int) (nomark _)) (pe_op op_fdiv (pv 3) (pv 1)) pe_int) (pg_sub (pv 0) pe_int set_list))
      (pss_one (ps_ret (pe_op op_mod (pv 3) (pv 1)))))) pss_nil)
      (pss_cons (ps_asg (pe_op op_mod (pe_op op_mul (pe_ix ix_list (pv 0) pe_int (fun _ _ => rfl)) pe_int) pe_int) (pg_sub (pv 0) pe_int set_list))
      (pss_one (ps_ret (pe_op op_mod (pe_op op_fdiv (pe_ix ix_list (pv 0) pe_int (fun _ _ => rfl)) pe_int) (pv 1)))))))), ?_⟩
    have h0 := hd.h
    have s0 := hd.s
    walk_at "go"
    refine iteB (fun h => ?_) (fun h => ?_)
    · walk_at "g"
      refine q _ _ (Ch.wrL hd.h (by simp)) ⟨_, _, _, _, _, hd.wr (dig' := dig / m) hd.p0 hd.m0 hd.m1 (Int.ediv_nonneg hd.g0 (by omega))⟩ (Int.emod_nonneg _ (by omega)) (Int.emod_lt_of_pos _ m0)
    · walk_at "g"
      refine iteB (fun h2 => ?_) (fun h2 => ?_)
      · have h3 := of_decide_eq_true h2
        rw [List.length_map] at h3
        have h4 := hd.p0
        have h5 : atI (ns.map V.int) (pos + 1 - 1) = some (V.int (ns.getD pos.toNat 0)) := at_of (j := pos.toNat) (by omega) (by
          have h6 : pos.toNat < ns.length := by omega
          rw [List.getElem?_map, List.getElem?_eq_getElem h6, List.getD_eq_getElem?_getD, List.getElem?_eq_getElem h6]
          rfl)
        generalize ns.getD pos.toNat 0 = cell at h5
        walk_at "g"
        have h7 : ∀ g : Int, 0 ≤ g → Dice K (upd (upd H d (.lst [.ref sc, .int (pos + 1), .int mix, .int dig])) d (.lst [.ref sc, .int (pos + 1), .int mix, .int g])) d := fun g hg =>
          ⟨_, _, _, _, _, (hd.wr (pos' := pos + 1) (by omega) hd.m0 hd.m1 hd.g0).wr (by omega) hd.m0 hd.m1 hg⟩
        refine iteB (fun h8 => ?_) (fun h8 => ?_)
        · walk_at "g"
          have h9 : (10 : Int) ^ Int.toNat 18 ≤ cell := of_decide_eq_true h8
          have h10 : (0 : Int) ≤ 10 ^ Int.toNat 18 := by decide
          exact q _ _ ((Ch.wrL hd.h (by simp)).trans (Ch.wrL upd_same (by simp))) (h7 _ (Int.ediv_nonneg (by omega) (by omega))) (Int.emod_nonneg _ (by omega)) (Int.emod_lt_of_pos _ m0)
        · walk_at "g"
          exact q _ _ ((Ch.wrL hd.h (by simp)).trans (Ch.wrL upd_same (by simp))) (h7 0 (by omega)) (Int.emod_nonneg _ (by omega)) (Int.emod_lt_of_pos _ m0)
      · walk_at "g"
        have h4 := hd.p0
        exact q _ _ ((Ch.wrL hd.h (by simp)).trans (Ch.wrL upd_same (by simp))) ⟨_, _, _, _, _, (hd.wr (pos' := pos + 1) (by omega) hd.m0 hd.m1 hd.g0).wr (by omega) (Int.emod_nonneg _ (by omega)) (Int.emod_lt_of_pos _ (by omega)) hd.g0⟩ (Int.emod_nonneg _ (by omega)) (Int.emod_lt_of_pos _ m0)
def spDice (K : PySem.W.Frag) : Sp := fun vs H Q _ => ∃ (sc : Addr) (ns : List Int), vs = [.ref sc] ∧ FzL K H sc (ns.map V.int) ∧ ns.length ≤ 63 ∧ ∀ H' d, Ch K [] H H' → H d = none → Dice K H' d → Q (.ref d) H'
theorem fn_dice (C : Cn w K mg base) : Fn P w K mg base CX0 1 "_law_dice" ["_law_script"] (spDice K) := C.f_law_dice fun fd F => by
  refine F.ok (CX := CX0) sc_law_dice (fun vs H Q E h => ?_) (fun cdv A outer s H vs Q E hr h => ?_)
  · obtain ⟨sc, ns, rfl, _⟩ := h
    rfl
  · obtain ⟨sc, ns, rfl, hs, hl, q⟩ := h
    refine ⟨_, PSs.nox (pss_cons (ps_set (i := 1) sc_law_dice.nd rfl (Or.inl rfl) pe_int)
      (pss_cons (ps_for PassesOwn.never rfl (pi_list (pv 0)) (pg_name (i := 2) sc_law_dice.nd rfl (Or.inl rfl)) (pss_one (ps_set (i := 1) sc_law_dice.nd rfl (Or.inl rfl) (pe_op op_mod (pe_op op_add (pe_op op_add (pe_op op_mul (pv 1) pe_int) (pe_op op_mul (pe_op op_mod (pv 2) pe_int) pe_int)) pe_int) pe_int))))
      (pss_one (ps_ret (pe_lst (pa_cons (pv 0) (pa_cons pe_int (pa_cons (pe_op op_mul (pv 1) (pe_callTy call_int1 (by rfl) (C.m_int) (by decide +kernel) (pa_cons (pe_cmpR op_gt (pe_callB call_len_seq (by rfl) (C.m_len) PySem.boot_len (pa_cons (pv 0) pa_nil)) pe_int (nomark _)) pa_nil))) (pa_cons pe_int pa_nil))))))))), ?_⟩
    walk_at "go"
    have hq := hs.sq
    refine ⟨⟨_, hq⟩, for_list (K := K) (a := sc) (xs := ns.map V.int) (fun i σ H2 => ∃ (m : Int) (v : Option V), σ = [some (.ref sc), some (.int m), v] ∧ H2 = H ∧ 0 ≤ m ∧ m < 2147483647) ⟨0, none, rfl, rfl, by omega, by omega⟩ (fun i σ H2 _ ⟨_, _, _, e, _⟩ => by rw [e]; exact hq) ?_ ?_⟩
    · rintro i y σ H2 hi ⟨m, v, rfl, rfl, m0, m1⟩
      obtain ⟨z, rfl⟩ : ∃ z, y = V.int z := by
        rw [List.getElem?_map] at hi
        cases e : ns[i]? with
        | none => rw [e] at hi; cases hi
        | some z => rw [e] at hi; exact ⟨z, (Option.some.inj hi).symm⟩
      have z0 := Int.emod_nonneg z (show (2147483647 : Int) ≠ 0 by decide)
      have z1 := Int.emod_lt_of_pos z (show (0 : Int) < 2147483647 by decide)
      walk_at "g"
      exact ⟨_, _, rfl, rfl, Int.emod_nonneg _ (by decide), Int.emod_lt_of_pos _ (by decide)⟩
    · rintro σ H2 ⟨m, v, rfl, rfl, m0, m1⟩
      walk_at "g"
      refine ⟨by show 4 ≤ sizeLine; decide, fun p np => ?_⟩
      refine q _ p (Ch.new np) np ⟨sc, ns, 0, _, 0, upd_same, hs.nw np, hl, by omega, ?_, ?_, by omega⟩
      · split <;> omega
      · split <;> omega
/-! ### parts -/
def spLeaf (K : PySem.W.Frag) : Sp := fun vs H Q _ => ∃ d nm, vs = [.ref d, .int nm] ∧ Dice K H d ∧ 0 ≤ nm ∧ nm ≤ 8 ∧
  ∀ H' v p, Ch K [d] H H' → Dice K H' d → Rep K H' v (encP p) → (∀ ps, wfP nm.toNat ps p) → szP p = 1 → Q v H'
theorem fn_leaf (C : Cn w K mg base) : Fn P w K mg base CX0 2 "_law_leaf" ["_law_d", "_law_names"] (spLeaf K) := C.f_law_leaf fun fd F => by
  have F_law_next : Fn P w K mg base CX0 1 "_law_next" ["_law_dice_here", "_law_many"] (spNext K) := fn_next C
  refine F.ok (CX := CX0) sc_law_leaf (fun vs H Q E h => ?_) (fun cdv A outer s H vs Q E hr h => ?_)
  · obtain ⟨d, m, rfl, _⟩ := h
    rfl
  · obtain ⟨d, nm, rfl, hd, m0, m1, q⟩ := h
    refine ⟨_, PSs.nox (Evl.pss_cut (ps_if (PW.pt (pw_and (pt_cmpR op_gt (pv 1) pe_int (nomark _)) (pw_and1 (pt_cmpR op_gt (pe_fn F_law_next (rmm hr) (by rfl) pass0 (pa_cons (pv 0) (pa_cons pe_int pa_nil))) pe_int (nomark _))))) (pss_one (ps_ret (pe_tup (pa_cons pe_str (pa_cons (pe_fn F_law_next (rmm hr) (by rfl) pass0 (pa_cons (pv 0) (pa_cons (pv 1) pa_nil))) pa_nil))))) pss_nil)
      (pss_one (ps_ret (pe_tup (pa_cons pe_str (pa_cons (pe_ix ix_list (pe_lst (pa_cons (pe_fn F_law_next (rmm hr) (by rfl) pass0 (pa_cons (pv 0) (pa_cons pe_int pa_nil))) (pa_cons (pe_op op_sub (pe_fn F_law_next (rmm hr) (by rfl) pass0 (pa_cons (pv 0) (pa_cons pe_int pa_nil))) pe_int) (pa_cons (pe_op op_pow pe_int pe_int) (pa_cons (pe_un un_neg pe_int) pa_nil))))) (pe_ix ix_list (pe_lst (pa_cons pe_int (pa_cons pe_int (pa_cons pe_int (pa_cons pe_int (pa_cons pe_int (pa_cons pe_int (pa_cons pe_int (pa_cons pe_int pa_nil))))))))) (pe_fn F_law_next (rmm hr) (by rfl) pass0 (pa_cons (pv 0) (pa_cons pe_int pa_nil))) (fun _ _ => rfl)) (fun _ _ => rfl)) pa_nil)))))), ?_⟩
    walk_at "go"
    refine g_cut (Mid := fun σ' H' => σ' = start ["_law_d", "_law_names"] [V.ref d, V.int nm] ∧ Ch K [d] H H' ∧ Dice K H' d) ?_ ?_
    · walk_at "g"
      refine iteB (fun h => ?_) (fun h => ?_)
      · have h0 := of_decide_eq_true h
        walk_at "g"
        refine ⟨d, 3, rfl, hd, by decide, by decide, fun H1 n c1 D1 n0 n1 => ?_⟩
        walk_at "g"
        refine iteB (fun h => ?_) (fun h => ?_)
        · walk_at "g"
          refine ⟨d, nm, rfl, D1, h0, by omega, fun H2 k c2 D2 k0 k1 => ?_⟩
          walk_at "g"
          refine ⟨by show 2 ≤ sizeLine; decide, fun p np => ?_⟩
          refine q _ _ (.name k.toNat) ((c1.trans c2).trans (Ch.new np)) (D2.ch (S := []) (Ch.new np) (by simp)) (.tup (SqT.of upd_same) (.cons (.str _) (.cons ?_ .nil))) (fun ps => ?_) rfl
          · have : k = (k.toNat : Int) := by omega
            rw [this]
            exact .int _
          · show k.toNat < nm.toNat
            omega
        · walk_at "g"
          exact ⟨rfl, c1, D1⟩
      · walk_at "g"
        rw [if_neg Bool.false_ne_true]
        walk_at "g"
        exact ⟨rfl, Ch.refl, hd⟩
    · rintro σ' H1 ⟨rfl, c1, D1⟩
      walk_at "g"
      refine ⟨d, 5, rfl, D1, by decide, by decide, fun H2 n c2 D2 n0 n1 => ?_⟩
      walk_at "g"
      refine ⟨d, 70, rfl, D2, by decide, by decide, fun H3 k c3 D3 k0 k1 => ?_⟩
      walk_at "g"
      refine ⟨by show 4 ≤ sizeLine; decide, fun l nl => ?_⟩
      walk_at "g"
      refine ⟨by show 8 ≤ sizeLine; decide, fun l2 nl2 => ?_⟩
      walk_at "g"
      have D5 := (D3.nw nl (o := .lst [.int n, .int (k - 3), .int (10 ^ Int.toNat 6), .int (-1)])).nw nl2 (o := .lst [.int 0, .int 0, .int 0, .int 1, .int 1, .int 1, .int 2, .int 3])
      refine ⟨d, 8, rfl, D5, by decide, by decide, fun H6 j c6 D6 j0 j1 => ?_⟩
      have e2 : H6 l2 = some (.lst [.int 0, .int 0, .int 0, .int 1, .int 1, .int 1, .int 2, .int 3]) := c6.up _ _ (by walk_at "hp") (notin1 ((D3.nw nl).ne nl2))
      have e1 : H6 l = some (.lst [.int n, .int (k - 3), .int (10 ^ Int.toNat 6), .int (-1)]) := c6.up _ _ (by walk_at "hp") (notin1 (D3.ne nl))
      obtain ⟨v, hv, i, rfl, i0, i1⟩ := at_all (P := fun v => ∃ i : Int, v = .int i ∧ 0 ≤ i ∧ i < 4) (xs := [V.int 0, V.int 0, V.int 0, V.int 1, V.int 1, V.int 1, V.int 2, V.int 3]) j0 j1 (by simp)
      obtain ⟨v, hv2, i, rfl, i2, i3⟩ := at_all (P := fun v => ∃ i : Int, v = .int i ∧ -1000000 ≤ i ∧ i ≤ 1000000) (xs := [V.int n, .int (k - 3), .int (10 ^ Int.toNat 6), .int (-1)]) i0 i1 (by
        have : (10 : Int) ^ Int.toNat 6 = 1000000 := by decide
        simp [this]
        omega)
      walk_at "g"
      refine ⟨by show 2 ≤ sizeLine; decide, fun p np => ?_⟩
      exact q _ _ (.num i) ((((c1.trans c2).trans c3).trans (((Ch.new nl).trans (Ch.new nl2)).trans c6)).trans (Ch.new np)) (D6.nw np) (.tup (SqT.of upd_same) (.cons (.str _) (.cons (.int _) .nil))) (fun ps => ⟨i2, i3⟩) rfl
end
end K3
end

section
set_option maxRecDepth 100000
set_option maxHeartbeats 1000000
open Bq L2
/-- one step of a reading; what is left are side goals and places to think -/
local macro_rules | `(tactic| walk_at "g1") => `(tactic| first
  | with_reducible refine' g_seq ?_ | with_reducible refine' g_asg ?_ | with_reducible refine' g_drop ?_ | with_reducible refine' g_ret ?_ | with_reducible refine' g_ifS ?_ | with_reducible refine' g_asgG ?_
  | ((with_reducible refine' g_var ?hv ?_); (case hv => rfl))
  | with_reducible refine' g_c ?_ | with_reducible refine' g_op ?_ | with_reducible refine' g_un ?_ | with_reducible refine' g_I0 ?_ | with_reducible refine' g_U ?_
  | with_reducible refine' g_test ?_ | with_reducible refine' g_tB ?_ | with_reducible refine Exists.intro _ (And.intro rfl ?_) 
  | ((with_reducible refine' g_andP ?ha ?hb ?_); (case ha => intro R q; walk_at "g"; exact q); (case hb => intro R q; walk_at "g"; exact q))
  | ((with_reducible refine' g_orP ?ha ?hb ?_); (case ha => intro R q; walk_at "g"; exact q); (case hb => intro R q; walk_at "g"; exact q))
  | with_reducible refine' g_and ?_ | with_reducible refine' g_or ?_ | with_reducible refine' g_not ?_
  | with_reducible refine' g_andV ?_ | with_reducible refine' g_orV ?_ | with_reducible refine' g_notV ?_ | with_reducible refine' g_if ?_ | with_reducible refine' g_nil ?_ | with_reducible refine' g_cons ?_
  | with_reducible refine' g_tup ?_ | with_reducible refine' g_lst ?_ | with_reducible refine' g_CB ?_ | with_reducible refine' g_Fn ?_ | with_reducible refine' g_next ?_ | with_reducible refine' g_retN ?_
  | with_reducible refine' g_name ?_ | with_reducible refine' g_sub ?_
  | ((with_reducible refine' g_ixL ?hs ?he ?_); (case hs => walk_at "lk"); (case he => walk_at "at"))
  | ((with_reducible refine' g_ixT ?hs ?he ?_); (case hs => walk_at "lk"); (case he => walk_at "at"))
  | ((with_reducible refine' g_setL ?hs ?he ?_); (case hs => walk_at "hp"); (case he => rfl))
  | ((with_reducible refine' g_app ?hs ?hz ?_); (case hs => walk_at "hp"); (case hz => walk_at "sz"))
  | ((with_reducible refine' ⟨_, _, rfl, Or.inl ?hs, ?_⟩); (case hs => walk_at "lk"))
  | ((with_reducible refine' ⟨_, _, rfl, Or.inr ?hs, ?_⟩); (case hs => walk_at "lk"))
  | with_reducible refine' g_BM ?_ | with_reducible refine' g_BM0 ?_ | ((with_reducible refine' g_tyL ?hs ?_); (case hs => walk_at "lk"))
  | with_reducible refine' g_sl ?_ | with_reducible refine' g_noPart ?_ | with_reducible refine' g_part ?_
  | ((with_reducible refine' g_inT ?hs ?fx ?fs ?_); (case hs => walk_at "lk"); (case fx => rfl); (case fs => rfl))
  | with_reducible refine' g_pair ?_ | with_reducible refine' g_pair0 ?_ | with_reducible refine' g_disp ?_
  | with_reducible refine' g_for ?_ | with_reducible refine' g_tupC ?_ | with_reducible refine' g_lstC ?_ | ((with_reducible refine' g_lens ?_)) | with_reducible refine' g_dg ?_ | with_reducible refine' g_lc ?_ | with_reducible refine' g_rng1 ?_ | with_reducible refine' g_ilist ?_ | with_reducible refine' g_itup ?_
  | ((with_reducible refine' ⟨_, _, rfl, ?hd, ?_⟩); (case hd => walk_at "dg"))
  | ((with_reducible refine' g_eqNil ?hs ?hz ?_); (case hs => walk_at "lk"); (case hz => walk_at "lk"))
  | ((with_reducible refine' g_neNil ?hs ?hz ?_); (case hs => walk_at "lk"); (case hz => walk_at "lk"))
  | with_reducible refine Or.inl ⟨_, rfl, ?_⟩
  | with_reducible refine Or.inr ⟨_, rfl, ?_⟩
  | ((with_reducible refine' g_eq ?hs ?_); (case hs => rfl))
  | ((with_reducible refine' g_ne ?hs ?_); (case hs => rfl))
  | ((with_reducible refine' g_I ?hc ?_); (case hc => walk_at "ar")))
/-- arithmetic's side conditions -/
local macro_rules | `(tactic| walk_at "ar") => `(tactic| (first
  | (show (0 : Int) < _; first | omega | decide) | (show (0 : Int) < _ ∧ _; constructor <;> omega) | (show ¬ (_ : Int) = _; omega) | (show (_ : Int) ≠ _ ∧ _; constructor <;> omega)
  | (show (-(2 ^ 64) < _ ∧ _) ∨ _; (first | (left; constructor <;> omega) | (right; constructor <;> omega))) | (show (0 : Int) ≤ _ ∧ _ ∧ _; refine ⟨by omega, by omega, by decide⟩)))
/-- what stands at an index -/
local macro_rules | `(tactic| walk_at "at") => `(tactic| first | rfl | assumption)
/-- what stands at an address -/
local macro_rules | `(tactic| walk_at "hp") => `(tactic| first | assumption | exact upd_same | ((refine' Eq.trans (upd_ne ?hn) ?hm); (case hm => walk_at "hp"); (case hn => walk_at "ne")))
/-- two places are two -/
local macro_rules | `(tactic| walk_at "ne") => `(tactic| first
  | assumption | exact Ne.symm (by assumption)
  | ((refine' ne_of_none ?ha ?hb); (case hb => assumption); (case ha => walk_at "hp")) | ((refine' Ne.symm (ne_of_none ?ha ?hb)); (case hb => assumption); (case ha => walk_at "hp")))
/-- what a dict tells -/
local macro_rules | `(tactic| walk_at "dg") => `(tactic| first | assumption)
/-- a length -/
local macro_rules | `(tactic| walk_at "sz") => `(tactic| first | (show _ ≤ sizeLine; decide) | (show _ < sizeLine; decide) | assumption | exact szlt (by simp) | exact szle (by simp))
/-- a list or tuple that stands -/
local macro_rules | `(tactic| walk_at "lk") => `(tactic| first | assumption | exact SqL.of (by assumption) | exact SqT.of (by assumption) | exact SqL.of upd_same | exact SqT.of upd_same | (refine' FzL.sq ?hm; (case hm => walk_at "fz")))
/-- a list that nobody writes -/
local macro_rules | `(tactic| walk_at "fz") => `(tactic| first | assumption | ((refine' FzL.uw ?hm ?hx); (case hx => walk_at "hp"); (case hm => walk_at "fz")) | ((refine' FzL.nw ?hm ?hx); (case hx => assumption); (case hm => walk_at "fz")))
/-- as far as it goes by itself -/
local macro_rules | `(tactic| walk_at "g") => `(tactic| repeat walk_at "g1")
/-- the body's reading, its places in short -/
local macro_rules | `(tactic| walk_at "go") => `(tactic| ((try dsimp only [cxOf, Cx.nox, Cx.wish]); walk_at "g"))
namespace K3
open PySem PySem.Spec PyProof.Rows L2 Bq
section
variable {P : Program} {w : World} {K : PySem.W.Frag} {mg : Str → Option Value} {base : Heap}
/-! ### what the making of parts stands on -/
structure GI (K : PySem.W.Frag) (H : Hp) (d wa r : Addr) (nm : Int) (pl : Addr) (ps : List Nat) (rm : Int) : Prop where
  dc : Dice K H d
  wd : H wa = some (.dK [(Sum.inr "names", .int nm), (Sum.inr "params", .ref pl)])
  hpl : H pl = some (.lst (ps.map fun n => V.int (n : Nat)))
  hrm : H r = some (.lst [.int rm])
  dr : d ≠ r
  pd : pl ≠ d
  pr : pl ≠ r
  n0 : 0 ≤ nm
  n8 : nm ≤ 8
  l8 : ps.length ≤ 8
  p4 : ∀ n ∈ ps, n ≤ 4
section
variable {H H1 : Hp} {d wa r pl p : Addr} {nm rm rm' : Int} {ps : List Nat} {o : HO}
theorem GI.wne (g : GI K H d wa r nm pl ps rm) : wa ∉ [d, r] := by
  obtain ⟨_, _, _, _, _, x⟩ := g.dc
  have h1 := ne_of g.wd x.h (by intro z; cases z)
  have h2 := ne_of g.wd g.hrm (by intro z; cases z)
  simp [h1, h2]
theorem GI.ch (g : GI K H d wa r nm pl ps rm) (c : Ch K [d, r] H H1) (D : Dice K H1 d) (e : H1 r = some (.lst [.int rm'])) : GI K H1 d wa r nm pl ps rm' :=
  ⟨D, c.up _ _ g.wd g.wne, c.up _ _ g.hpl (by simp [g.pd, g.pr]), e, g.dr, g.pd, g.pr, g.n0, g.n8, g.l8, g.p4⟩
/-- only the dice were thrown -/
theorem GI.cd (g : GI K H d wa r nm pl ps rm) (c : Ch K [d] H H1) (D : Dice K H1 d) : GI K H1 d wa r nm pl ps rm := g.ch (c.mono (by simp)) D (c.up _ _ g.hrm (by simpa using g.dr.symm))
theorem GI.nw (g : GI K H d wa r nm pl ps rm) (n : H p = none) : GI K (upd H p o) d wa r nm pl ps rm := g.cd (Ch.new n) (g.dc.nw n)
theorem GI.wr (g : GI K H d wa r nm pl ps rm) : GI K (upd H r (.lst [.int rm'])) d wa r nm pl ps rm' :=
  g.ch (Ch.wrL g.hrm (by simp)) (g.dc.ch (S := [r]) (Ch.wrL g.hrm (by simp)) (by simpa using g.dr)) upd_same
theorem GI.wrD {D : Addr} {u : HO} {rm0 : Int} (g : GI K H d wa r nm pl ps rm) (g0 : GI K H1 d wa r nm pl ps rm0) (n : H1 D = none) (h : H D = some u) (ht : notT u = true) : GI K (upd H D o) d wa r nm pl ps rm := by
  have c : Ch K [D] H (upd H D o) := Ch.wr h ht (by simp)
  have hd := g0.dc.ne n
  have hr := ne_of_none g0.hrm n
  have hw := ne_of_none g0.wd n
  have hp := ne_of_none g0.hpl n
  exact ⟨g.dc.ch c (by simpa using hd.symm), c.up _ _ g.wd (by simpa using hw), c.up _ _ g.hpl (by simpa using hp), c.up _ _ g.hrm (by simpa using hr), g.dr, g.pd, g.pr, g.n0, g.n8, g.l8, g.p4⟩
theorem GI.names (g : GI K H d wa r nm pl ps rm) : DGet H wa (.str "names") (some (.int nm)) := by
  have h := DGet.k (k := Sum.inr "names") g.wd
  exact h
theorem GI.params (g : GI K H d wa r nm pl ps rm) : DGet H wa (.str "params") (some (.ref pl)) := by
  have h := DGet.k (k := Sum.inr "params") g.wd
  exact h
end
def spPart (K : PySem.W.Frag) (b : Int) : Sp := fun vs H Q _ => ∃ d wa r nm pl ps rm, vs = [.ref d, .ref wa, .ref r] ∧ GI K H d wa r nm pl ps rm ∧ rm ≤ b ∧
  ∀ H' v p rm', Ch K [d, r] H H' → GI K H' d wa r nm pl ps rm' → rm' ≤ rm - 1 → Rep K H' v (encP p) → wfP nm.toNat ps p → (dpP p : Int) ≤ b + 1 → Q v H'
theorem wOps : ∀ v ∈ [V.str "add", V.str "take", V.str "times", V.str "less", V.str "same", V.str "over", V.str "rest", V.str "over"], ∃ o : Op, v = .str o.str := by
  intro v hv
  simp only [List.mem_cons, List.not_mem_nil, or_false] at hv
  rcases hv with rfl | rfl | rfl | rfl | rfl | rfl | rfl | rfl
  · exact ⟨.add, rfl⟩
  · exact ⟨.take, rfl⟩
  · exact ⟨.times, rfl⟩
  · exact ⟨.less, rfl⟩
  · exact ⟨.same, rfl⟩
  · exact ⟨.over, rfl⟩
  · exact ⟨.rest, rfl⟩
  · exact ⟨.over, rfl⟩
theorem part_step (C : Cn w K mg base) (k : Nat) (hk : 2 ≤ k) (b : Int) (hb0 : 0 ≤ b) {sp : Sp} (F_law_part : Fn P w K mg base CX0 k "_law_part" ["_law_d", "_law_w", "_law_room"] sp)
    (hsp : 1 ≤ b → ∀ vs H Q E, spPart K b vs H Q E → sp vs H Q E) : Fn P w K mg base CX0 (k + 1) "_law_part" ["_law_d", "_law_w", "_law_room"] (spPart K (b + 1)) := C.f_law_part fun fd F => by
  have F_law_next : Fn P w K mg base CX0 1 "_law_next" ["_law_dice_here", "_law_many"] (spNext K) := fn_next C
  have F_law_leaf : Fn P w K mg base CX0 2 "_law_leaf" ["_law_d", "_law_names"] (spLeaf K) := fn_leaf C
  refine F.ok (CX := CX0) sc_law_part (fun vs H Q E h => ?_) (fun cdv A outer s H vs Q E hr h => ?_)
  · obtain ⟨d, wa, r, nm, pl, ps, rm, rfl, _⟩ := h
    rfl
  · obtain ⟨d, wa, r, nm, pl, ps, rm, rfl, g, hb, q⟩ := h
    have hu := hu_of (hr.mono (show 1 ≤ k by omega))
    have hu0 : ∀ {A : Around}, A.units + 1 < cLine → A.units < cLine := fun h => by omega
    replace hu0 := hu0 hu
    refine ⟨_, PSs.nox (pss_cons (ps_asg (pe_op op_sub (pe_ix ix_list (pv 2) pe_int (fun _ _ => rfl)) pe_int) (pg_sub (pv 2) pe_int set_list))
      (pss_cons (ps_set (i := 3) sc_law_part.nd rfl (Or.inl rfl) (pe_fn F_law_next (rmm hr) (by rfl) pass0 (pa_cons (pv 0) (pa_cons pe_int pa_nil))))
      (Evl.pss_cut (ps_if (PW.pt (pw_and (pt_cmpR op_eq (pv 3) pe_int (nomark _)) (pw_and1 (pt_cmpR op_eq (pe_fn F_law_next (rmm hr) (by rfl) pass0 (pa_cons (pv 0) (pa_cons pe_int pa_nil))) pe_int (nomark _))))) (pss_one (ps_ret (pe_tup (pa_cons pe_str (pa_cons (pe_tup (pa_cons pe_str (pa_cons (pe_op op_pow pe_int pe_int) pa_nil))) (pa_cons (pe_tup (pa_cons pe_str (pa_cons (pe_ix ix_list (pe_lst (pa_cons pe_int (pa_cons (pe_un un_neg pe_int) (pa_cons pe_int pa_nil)))) (pe_fn F_law_next (rmm hr) (by rfl) pass0 (pa_cons (pv 0) (pa_cons pe_int pa_nil))) (fun _ _ => rfl)) pa_nil))) pa_nil)))))) pss_nil)
      (pss_cons (ps_if (PW.pt (pw_or (pt_cmpR op_lt (pe_ix ix_list (pv 2) pe_int (fun _ _ => rfl)) pe_int (nomark _)) (pw_or1 (pt_cmpR op_lt (pv 3) pe_int (nomark _))))) (pss_one (ps_ret (pe_fn F_law_leaf (rmm hr) (by rfl) pass0 (pa_cons (pv 0) (pa_cons (pe_dget hu (pv 1) pe_str (fun _ _ => rfl)) pa_nil))))) pss_nil)
      (pss_cons (ps_if (pt_cmpR op_lt (pv 3) pe_int (nomark _)) (pss_cons (ps_set (i := 4) sc_law_part.nd rfl (Or.inl rfl) (pe_lst (pa_cons pe_str (pa_cons pe_str (pa_cons pe_str (pa_cons pe_str (pa_cons pe_str (pa_cons pe_str (pa_cons pe_str (pa_cons pe_str pa_nil))))))))))
      (pss_cons (ps_set (i := 5) sc_law_part.nd rfl (Or.inl rfl) (pe_fn F_law_part (rmm hr) (by rfl) pass0 (pa_cons (pv 0) (pa_cons (pv 1) (pa_cons (pv 2) pa_nil)))))
      (pss_one (ps_ret (pe_tup (pa_cons (pe_ix ix_list (pv 4) (pe_fn F_law_next (rmm hr) (by rfl) pass0 (pa_cons (pv 0) (pa_cons pe_int pa_nil))) (fun _ _ => rfl)) (pa_cons (pv 5) (pa_cons (pe_fn F_law_part (rmm hr) (by rfl) pass0 (pa_cons (pv 0) (pa_cons (pv 1) (pa_cons (pv 2) pa_nil)))) pa_nil)))))))) pss_nil)
      (pss_cons (ps_if (pt_cmpR op_eq (pv 3) pe_int (nomark _)) (pss_one (ps_ret (pe_tup (pa_cons pe_str (pa_cons (pe_fn F_law_part (rmm hr) (by rfl) pass0 (pa_cons (pv 0) (pa_cons (pv 1) (pa_cons (pv 2) pa_nil)))) pa_nil))))) pss_nil)
      (pss_cons (ps_if (pt_mid (PW.pt (pw_or (pt_cmpR op_eq (pv 3) pe_int (nomark _)) (pw_or1 (pt_cmpR (op_eqNil hu0) (pe_dget hu (pv 1) pe_str (fun _ _ => rfl)) (pe_lst pa_nil) (nomark _)))))) (pss_one (ps_ret (pe_tup (pa_cons pe_str (pa_cons (pe_ix ix_list (pe_lst (pa_cons (pe_fn F_law_leaf (rmm hr) (by rfl) pass0 (pa_cons (pv 0) (pa_cons pe_int pa_nil))) (pa_cons (pe_fn F_law_part (rmm hr) (by rfl) pass0 (pa_cons (pv 0) (pa_cons (pv 1) (pa_cons (pv 2) pa_nil)))) pa_nil))) (pe_callTy call_int1 (by rfl) (C.m_int) (by decide +kernel) (pa_cons (pe_cmpR op_eq (pe_fn F_law_next (rmm hr) (by rfl) pass0 (pa_cons (pv 0) (pa_cons pe_int pa_nil))) pe_int (nomark _)) pa_nil)) (fun _ _ => rfl)) pa_nil))))) pss_nil)
      (pss_cons (ps_set (i := 6) sc_law_part.nd rfl (Or.inl rfl) (pe_fn F_law_next (rmm hr) (by rfl) pass0 (pa_cons (pv 0) (pa_cons (pe_callB call_len_seq (by rfl) (C.m_len) PySem.boot_len (pa_cons (pe_dget hu (pv 1) pe_str (fun _ _ => rfl)) pa_nil)) pa_nil))))
      (pss_one (ps_ret (pe_tup (pa_cons pe_str (pa_cons (pv 6) (pa_cons (pe_callTy call_tuple_of (by rfl) (C.m_tuple) (by decide +kernel) (pa_cons (pe_lc (own := [("_law_k", 7)]) (g := gName 7) (tt := tYes) rfl sc_law_part.nd (pi_range1 (by rfl) (C.m_range) (pa_cons (pe_ix ix_list (pe_dget hu (pv 1) pe_str (fun _ _ => rfl)) (pv 6) (fun _ _ => rfl)) pa_nil)) (blkOk_by (own := [("_law_k", 7)]) (N := ["_law_d", "_law_w", "_law_room", "_law_way", "_law_words", "_law_one_here", "_law_fun", "_law_k"]) (sc := defScope s_law_part) (by decide +kernel)) (fun _ _ _ _ _ => pg_name (i := 7) sc_law_part.nd rfl (Or.inl rfl)) (fun _ _ _ _ _ => pts_nil) (fun _ _ _ _ _ => (pe_fn F_law_part (rmm hr) (by rfl) pass0 (pa_cons (pv 0) (pa_cons (pv 1) (pa_cons (pv 2) pa_nil)))))) pa_nil)) pa_nil)))))))))))))), ?_⟩
    have h0 := g.hrm
    walk_at "go"
    have c0 : Ch K [d, r] H (upd H r (.lst [.int (rm - 1)])) := Ch.wrL g.hrm (by simp)
    have g0 : GI K (upd H r (.lst [.int (rm - 1)])) d wa r nm pl ps (rm - 1) := g.wr
    refine ⟨d, 12, rfl, g0.dc, by decide, by decide, fun H1 way c1 D1 w0 w1 => ?_⟩
    have g1 := g0.cd c1 D1
    replace c1 := c0.trans (c1.mono (S' := [d, r]) (by simp))
    clear c0 g0
    walk_at "g"
    refine g_cut (Mid := fun σ' H' => σ' = [some (.ref d), some (.ref wa), some (.ref r), some (.int way), none, none, none, none] ∧ Ch K [d, r] H H' ∧ GI K H' d wa r nm pl ps (rm - 1)) ?_ ?_
    · walk_at "g"
      refine iteB (fun h => ?_) (fun h => ?_)
      · walk_at "g"
        refine ⟨d, 6, rfl, g1.dc, by decide, by decide, fun H2 n c2 D2 n0 n1 => ?_⟩
        have g2 := g1.cd c2 D2
        replace c2 := c1.trans (c2.mono (S' := [d, r]) (by simp))
        walk_at "g"
        refine iteB (fun h => ?_) (fun h => ?_)
        · walk_at "g"
          refine ⟨by show 2 ≤ sizeLine; decide, fun p np => ?_⟩
          walk_at "g"
          refine ⟨by show 3 ≤ sizeLine; decide, fun l nl => ?_⟩
          walk_at "g"
          refine ⟨d, 3, rfl, ((g2.nw np).nw nl).dc, by decide, by decide, fun H3 j c3 D3 j0 j1 => ?_⟩
          have g3 := ((g2.nw np).nw nl).cd c3 D3
          have e3 : H3 l = some (.lst [.int 1000, .int (-1000), .int 1001]) := c3.up _ _ (by walk_at "hp") (notin1 ((g2.nw np).dc.ne nl))
          have ep : SqT K H3 p [.str "num", .int (10 ^ Int.toNat 6)] := c3.kt.t _ _ (SqT.of (by walk_at "hp"))
          obtain ⟨v, hv, i, rfl, i0, i1⟩ := at_all (P := fun v => ∃ i : Int, v = .int i ∧ -1000 ≤ i ∧ i ≤ 1001) (xs := [V.int 1000, V.int (-1000), V.int 1001]) j0 j1 (by simp)
          walk_at "g"
          refine ⟨by show 2 ≤ sizeLine; decide, fun p2 np2 => ?_⟩
          walk_at "g"
          refine ⟨by show 3 ≤ sizeLine; decide, fun p3 np3 => ?_⟩
          have c4 : Ch K [d, r] H (upd (upd H3 p2 (.tup [.str "num", .int i])) p3 (.tup [.str "times", .ref p, .ref p2])) := (((c2.trans (Ch.new np)).trans (Ch.new nl)).trans (c3.mono (by simp))).trans ((Ch.new np2).trans (Ch.new np3))
          have e6 : (10 : Int) ^ Int.toNat 6 = 1000000 := by decide
          refine q _ _ (.bin .times (.num (10 ^ Int.toNat 6)) (.num i)) _ c4 ((g3.nw np2).nw np3) (Int.le_refl _) ?_ ⟨by rw [e6]; constructor <;> decide, by constructor <;> omega⟩ (by simp only [dpP]; omega)
          have k34 : Kt K H3 (upd (upd H3 p2 (.tup [.str "num", .int i])) p3 (.tup [.str "times", .ref p, .ref p2])) := ((Ch.new (S := []) np2).trans (Ch.new np3)).kt
          exact .tup (SqT.of upd_same) (.cons (.str _) (.cons (.tup (k34.t _ _ ep) (.cons (.str _) (.cons (.int _) .nil))) (.cons (.tup (SqT.of (by walk_at "hp")) (.cons (.str _) (.cons (.int _) .nil))) .nil)))
        · walk_at "g"
          exact ⟨rfl, c2, g2⟩
      · rw [if_neg Bool.false_ne_true]
        walk_at "g"
        exact ⟨rfl, c1, g1⟩
    · clear c1 g1 D1 H1
      rintro _ H1 ⟨rfl, c1, g1⟩
      have h1 := g1.hrm
      walk_at "g"
      refine iteB (fun h => ?_) (fun h => ?_)
      · have hn := g1.names
        walk_at "g"
        refine ⟨d, nm, rfl, g1.dc, g1.n0, g1.n8, fun H2 v p c2 D2 rp wf z => ?_⟩
        exact q _ v p (rm - 1) (c1.trans (c2.mono (by simp))) (g1.cd c2 D2) (Int.le_refl _) rp (wf ps) (by have := dpP_sz p; omega)
      · have h2 : 2 ≤ rm - 1 ∧ 2 ≤ way := by
          simp only [Bool.or_eq_false_iff, decide_eq_false_iff_not] at h
          omega
        have hsp' := hsp (by omega)
        clear h
        walk_at "g"
        refine iteB (fun h => ?_) (fun h => ?_)
        · walk_at "g"
          refine ⟨by show 8 ≤ sizeLine; decide, fun l nl => ?_⟩
          have lr : l ∉ [d, r] := by simp [g1.dc.ne nl, (ne_of_none g1.hrm nl).symm]
          walk_at "g"
          refine hsp' _ _ _ _ ⟨d, wa, r, nm, pl, ps, rm - 1, rfl, g1.nw nl, by omega, fun H2 v1 p1 rm2 c2 g2 r2 rep1 wf1 dp1 => ?_⟩
          walk_at "g"
          refine ⟨d, 8, rfl, g2.dc, by decide, by decide, fun H3 j c3 D3 j0 j1 => ?_⟩
          have e3 := c3.up _ _ (c2.up _ _ (upd_same (H := H1) (a := l)) lr) (by simp [g1.dc.ne nl])
          obtain ⟨v, hv, o, rfl⟩ := at_all (xs := [V.str "add", V.str "take", V.str "times", V.str "less", V.str "same", V.str "over", V.str "rest", V.str "over"]) j0 j1 wOps
          walk_at "g"
          refine hsp' _ _ _ _ ⟨d, wa, r, nm, pl, ps, rm2, rfl, g2.cd c3 D3, by omega, fun H4 v2 p2 rm4 c4 g4 r4 rep2 wf2 dp2 => ?_⟩
          walk_at "g"
          refine ⟨by show 3 ≤ sizeLine; decide, fun p np => ?_⟩
          have c34 := (c3.mono (S' := [d, r]) (by simp)).trans (c4.trans (Ch.new np (o := .tup [.str o.str, v1, v2])))
          exact q _ _ (.bin o p1 p2) rm4 (c1.trans ((Ch.new nl).trans (c2.trans c34))) (g4.nw np) (by omega)
            (.tup (SqT.of upd_same) (.cons (.str _) (.cons (rep1.kt c34.kt) (.cons (rep2.kt (Ch.new (S := []) np).kt) .nil)))) ⟨wf1, wf2⟩ (by simp only [dpP]; omega)
        · walk_at "g"
          refine iteB (fun h => ?_) (fun h => ?_)
          · walk_at "g"
            refine hsp' _ _ _ _ ⟨d, wa, r, nm, pl, ps, rm - 1, rfl, g1, by omega, fun H2 v1 p1 rm2 c2 g2 r2 rep1 wf1 dp1 => ?_⟩
            walk_at "g"
            refine ⟨by show 2 ≤ sizeLine; decide, fun p np => ?_⟩
            exact q _ _ (.nt p1) rm2 (c1.trans (c2.trans (Ch.new np))) (g2.nw np) (by omega) (.tup (SqT.of upd_same) (.cons (.str _) (.cons (rep1.kt (Ch.new (S := []) np).kt) .nil))) wf1 (by simp only [dpP]; omega)
          · walk_at "g"
            refine g_mid (fun b H' => (b = false → ps ≠ []) ∧ Ch K [d, r] H H' ∧ GI K H' d wa r nm pl ps (rm - 1)) ?_ ?_
            · walk_at "g"
              refine iteB (fun h => ?_) (fun h => ?_)
              · exact ⟨fun z => (by cases z), c1, g1⟩
              · have hn := g1.params
                have hp := g1.hpl
                walk_at "g"
                refine ⟨Nat.zero_le _, fun l nl => ?_⟩
                have hp2 := (g1.nw nl (o := .lst [])).hpl
                have hl2 : SqL K (upd H1 l (.lst [])) l [] := SqL.of upd_same
                refine g_eqNil (SqL.of hp2) hl2 ?_
                walk_at "g"
                refine ⟨fun z e => ?_, c1.trans (Ch.new nl), g1.nw nl⟩
                rw [e] at z
                cases z
            · clear c1 g1 h1 H1
              rintro bb H1 ⟨hne, c1, g1⟩
              refine iteB (fun h => ?_) (fun h => ?_)
              · walk_at "g"
                refine ⟨d, 0, rfl, g1.dc, by decide, by decide, fun H2 v1 p1 c2 D2 rep1 wf1 z1 => ?_⟩
                have g2 := g1.cd c2 D2
                walk_at "g"
                refine hsp' _ _ _ _ ⟨d, wa, r, nm, pl, ps, rm - 1, rfl, g2, by omega, fun H3 v2 p2 rm3 c3 g3 r3 rep2 wf2 dp2 => ?_⟩
                walk_at "g"
                refine ⟨by show 2 ≤ sizeLine; decide, fun l nl => ?_⟩
                walk_at "g"
                refine ⟨d, 3, rfl, (g3.nw nl).dc, by decide, by decide, fun H4 j c4 D4 j0 j1 => ?_⟩
                have g4 := (g3.nw nl).cd c4 D4
                have e4 := c4.up _ _ (upd_same (H := H3) (a := l)) (notin1 (g3.dc.ne nl))
                walk_at "g"
                have c14 := (c2.mono (S' := [d, r]) (by simp)).trans (c3.trans ((Ch.new nl).trans (c4.mono (by simp))))
                have k4 : Kt K H2 H4 := (c3.trans ((Ch.new nl).trans (c4.mono (by simp)))).kt
                have k5 : Kt K H3 H4 := ((Ch.new (S := [d]) nl).trans c4).kt
                have fin : ∀ v p, Rep K H4 v (encP p) → wfP nm.toNat ps p → (dpP p : Int) ≤ b + 1 → tNil [some (V.ref d), some (V.ref wa), some (V.ref r), some (V.int way), none, none, none, none] H4 fun xs H2 => (V.str "get" :: v :: xs).length ≤ sizeLine ∧
                    ∀ p, H2 p = none → Q (V.ref p) (upd H2 p (.tup (V.str "get" :: v :: xs))) := by
                  intro v pp rep wf dp
                  walk_at "g"
                  refine ⟨by show 2 ≤ sizeLine; decide, fun p np => ?_⟩
                  exact q _ _ (.get pp) rm3 (c1.trans (c14.trans (Ch.new np))) (g4.nw np) (by omega) (.tup (SqT.of upd_same) (.cons (.str _) (.cons (rep.kt (Ch.new (S := []) np).kt) .nil))) wf (by simp only [dpP]; omega)
                by_cases hj : j = 2
                · subst hj
                  refine g_ixL (SqL.of e4) (v := v2) rfl ?_
                  exact fin _ _ (rep2.kt k5) wf2 dp2
                · have e5 : (if decide (V.int j = V.int 2) = true then (1 : Int) else 0) = 0 := by
                    rw [if_neg]
                    simpa using hj
                  rw [e5]
                  refine g_ixL (SqL.of e4) (v := v1) rfl ?_
                  exact fin _ _ (rep1.kt k4) (wfP_mono (Nat.zero_le _) (wf1 ps)) (by have := dpP_sz p1; omega)
              · have hn := g1.params
                have hp := g1.hpl
                walk_at "g"
                have hne' : ps ≠ [] := hne h
                have pl0 : 0 < ps.length := List.length_pos_iff.mpr hne'
                have pl8 := g1.l8
                rw [List.length_map]
                refine ⟨d, (ps.length : Nat), rfl, g1.dc, by omega, by omega, fun H2 j c2 D2 j0 j1 => ?_⟩
                have g2 := g1.cd c2 D2
                have hn2 := g2.params
                have hp2 := g2.hpl
                have hjn : j.toNat < ps.length := by omega
                have e2 : atI (ps.map fun n => V.int (n : Nat)) j = some (V.int (ps[j.toNat] : Nat)) := at_of (j := j.toNat) (by omega) (by rw [List.getElem?_map, List.getElem?_eq_getElem hjn]; rfl)
                have p4 := g2.p4 _ (List.getElem_mem hjn)
                walk_at "g"
                refine ⟨by omega, by omega, fun D nD => ?_⟩
                have Dn : D ∉ [d, r] := by simp [g2.dc.ne nD, (ne_of_none g2.hrm nD).symm]
                refine lcR1 (fun i H' => Ch K [d, r] H2 H' ∧ ∃ rm', GI K H' d wa r nm pl ps rm' ∧ rm' ≤ rm - 1 ∧ ∃ vs qs, H' D = some (.lst vs) ∧ vs.length = i ∧ qs.length = i ∧ Reps K H' vs (encPs qs) ∧ wfPs nm.toNat ps qs ∧ (dpPs qs : Int) ≤ b + 1)
                  ⟨Ch.new nD, rm - 1, g2.nw nD, Int.le_refl _, [], [], upd_same, rfl, rfl, .nil, trivial, by simp only [dpPs]; omega⟩ ?_ ?_
                · rintro i H3 hi ⟨c3, rm3, g3, r3, vs, qs, eD, lv, lq, reps, wfs, dps⟩
                  walk_at "g"
                  refine hsp' _ _ _ _ ⟨d, wa, r, nm, pl, ps, rm3, rfl, g3, by omega, fun H4 v p rm4 c4 g4 r4 rep wf dp => ?_⟩
                  have eD4 := c4.up _ _ eD Dn
                  have k4 : Kt K H4 (upd H4 D (.lst (vs ++ [v]))) := (Ch.wrL (S := [D]) eD4 (by simp)).kt
                  refine ⟨vs, eD4, Nat.lt_of_le_of_lt (show vs.length ≤ 8 by omega) (by decide), Ch.wrN (c3.trans c4) nD eD4 rfl, rm4, g4.wrD g2 nD eD4 rfl, by omega, vs ++ [v], qs ++ [p], upd_same, by simp [lv], by simp [lq], ?_, wfPs_app wfs ⟨wf, trivial⟩, by rw [dpPs_app]; simp only [dpPs]; omega⟩
                  rw [encPs_app]
                  exact ((reps.kt c4.kt).kt k4).append (.cons (rep.kt k4) .nil)
                · rintro H3 ⟨c3, rm3, g3, r3, vs, qs, eD, lv, lq, reps, wfs, dps⟩
                  walk_at "g"
                  refine ⟨D, vs, rfl, .inl ⟨SqL.of eD, fun l nl => ?_⟩⟩
                  walk_at "g"
                  refine ⟨by show 3 ≤ sizeLine; decide, fun p np => ?_⟩
                  have kk : Kt K H3 (upd (upd H3 l (.tup vs)) p (.tup [.str "call", .int j, .ref l])) := ((Ch.new (S := []) nl).trans (Ch.new np)).kt
                  have ej : j = (j.toNat : Int) := by omega
                  refine q _ _ (.call j.toNat qs) rm3 (c1.trans ((c2.mono (by simp)).trans (c3.trans ((Ch.new nl).trans (Ch.new np))))) ((g3.nw nl).nw np) (by omega) ?_ ⟨?_, wfs⟩ (by simp only [dpP]; omega)
                  · refine .tup (SqT.of upd_same) (.cons (.str _) (.cons ?_ (.cons (.tup (SqT.of (by walk_at "hp")) (reps.kt kk)) .nil)))
                    rw [ej]
                    exact .int _
                  · rw [List.getElem?_eq_getElem hjn, lq]
                    exact congrArg some (by omega)
/-- parts with room for so many more -/
theorem fn_part (C : Cn w K mg base) : ∀ n : Nat, Fn P w K mg base CX0 (n + 3) "_law_part" ["_law_d", "_law_w", "_law_room"] (spPart K ((n : Int) + 1))
  | 0 => part_step C 2 (Nat.le_refl _) 0 (by omega) (sp := fun _ _ _ _ => False) (C.f_law_part fun fd F => ⟨fun _ _ _ _ h => h.elim, fun _ _ _ _ _ _ _ _ _ _ _ _ _ h => h.elim⟩) fun h => by omega
  | n + 1 => by
    have h := part_step C (n + 3) (by omega) ((n : Int) + 1) (by omega) (fn_part C n) fun _ _ _ _ _ h => h
    rwa [show ((n + 1 : Nat) : Int) + 1 = (n : Int) + 1 + 1 by omega]
end
end K3
end

section
set_option maxRecDepth 100000
set_option maxHeartbeats 1000000
open Bq L2
/-- one step of a reading; what is left are side goals and places to think -/
local macro_rules | `(tactic| walk_at "g1") => `(tactic| first
  | with_reducible refine' g_seq ?_ | with_reducible refine' g_asg ?_ | with_reducible refine' g_drop ?_ | with_reducible refine' g_ret ?_ | with_reducible refine' g_ifS ?_ | with_reducible refine' g_asgG ?_
  | ((with_reducible refine' g_var ?hv ?_); (case hv => rfl))
  | with_reducible refine' g_c ?_ | with_reducible refine' g_op ?_ | with_reducible refine' g_un ?_ | with_reducible refine' g_I0 ?_ | with_reducible refine' g_U ?_
  | with_reducible refine' g_test ?_ | with_reducible refine' g_tB ?_ | with_reducible refine Exists.intro _ (And.intro rfl ?_) 
  | ((with_reducible refine' g_andP ?ha ?hb ?_); (case ha => intro R q; walk_at "g"; exact q); (case hb => intro R q; walk_at "g"; exact q))
  | ((with_reducible refine' g_orP ?ha ?hb ?_); (case ha => intro R q; walk_at "g"; exact q); (case hb => intro R q; walk_at "g"; exact q))
  | with_reducible refine' g_and ?_ | with_reducible refine' g_or ?_ | with_reducible refine' g_not ?_
  | with_reducible refine' g_andV ?_ | with_reducible refine' g_orV ?_ | with_reducible refine' g_notV ?_ | with_reducible refine' g_if ?_ | with_reducible refine' g_nil ?_ | with_reducible refine' g_cons ?_
  | with_reducible refine' g_tup ?_ | with_reducible refine' g_lst ?_ | with_reducible refine' g_CB ?_ | with_reducible refine' g_Fn ?_ | with_reducible refine' g_next ?_ | with_reducible refine' g_retN ?_
  | with_reducible refine' g_name ?_ | with_reducible refine' g_sub ?_
  | ((with_reducible refine' g_ixL ?hs ?he ?_); (case hs => walk_at "lk"); (case he => walk_at "at"))
  | ((with_reducible refine' g_ixT ?hs ?he ?_); (case hs => walk_at "lk"); (case he => walk_at "at"))
  | ((with_reducible refine' g_setL ?hs ?he ?_); (case hs => walk_at "hp"); (case he => rfl))
  | ((with_reducible refine' g_app ?hs ?hz ?_); (case hs => walk_at "hp"); (case hz => walk_at "sz"))
  | ((with_reducible refine' ⟨_, _, rfl, Or.inl ?hs, ?_⟩); (case hs => walk_at "lk"))
  | ((with_reducible refine' ⟨_, _, rfl, Or.inr ?hs, ?_⟩); (case hs => walk_at "lk"))
  | with_reducible refine' g_BM ?_ | with_reducible refine' g_BM0 ?_ | ((with_reducible refine' g_tyL ?hs ?_); (case hs => walk_at "lk"))
  | with_reducible refine' g_sl ?_ | with_reducible refine' g_noPart ?_ | with_reducible refine' g_part ?_
  | ((with_reducible refine' g_inT ?hs ?fx ?fs ?_); (case hs => walk_at "lk"); (case fx => rfl); (case fs => rfl))
  | with_reducible refine' g_pair ?_ | with_reducible refine' g_pair0 ?_ | with_reducible refine' g_disp ?_
  | with_reducible refine' g_for ?_ | with_reducible refine' g_tupC ?_ | with_reducible refine' g_lstC ?_ | ((with_reducible refine' g_lens ?_)) | with_reducible refine' g_dg ?_ | with_reducible refine' g_lc ?_ | with_reducible refine' g_rng1 ?_ | with_reducible refine' g_ilist ?_ | with_reducible refine' g_itup ?_
  | ((with_reducible refine' ⟨_, _, rfl, ?hd, ?_⟩); (case hd => walk_at "dg"))
  | ((with_reducible refine' g_eqNil ?hs ?hz ?_); (case hs => walk_at "lk"); (case hz => walk_at "lk"))
  | ((with_reducible refine' g_neNil ?hs ?hz ?_); (case hs => walk_at "lk"); (case hz => walk_at "lk"))
  | with_reducible refine Or.inl ⟨_, rfl, ?_⟩
  | with_reducible refine Or.inr ⟨_, rfl, ?_⟩
  | ((with_reducible refine' g_eq ?hs ?_); (case hs => rfl))
  | ((with_reducible refine' g_ne ?hs ?_); (case hs => rfl))
  | ((with_reducible refine' g_I ?hc ?_); (case hc => walk_at "ar")))
/-- arithmetic's side conditions -/
local macro_rules | `(tactic| walk_at "ar") => `(tactic| (first
  | (show (0 : Int) < _; first | omega | decide) | (show (0 : Int) < _ ∧ _; constructor <;> omega) | (show ¬ (_ : Int) = _; omega) | (show (_ : Int) ≠ _ ∧ _; constructor <;> omega)
  | (show (-(2 ^ 64) < _ ∧ _) ∨ _; (first | (left; constructor <;> omega) | (right; constructor <;> omega))) | (show (0 : Int) ≤ _ ∧ _ ∧ _; refine ⟨by omega, by omega, by decide⟩)))
/-- what stands at an index -/
local macro_rules | `(tactic| walk_at "at") => `(tactic| first | rfl | assumption)
/-- what stands at an address -/
local macro_rules | `(tactic| walk_at "hp") => `(tactic| first | assumption | exact upd_same | ((refine' Eq.trans (upd_ne ?hn) ?hm); (case hm => walk_at "hp"); (case hn => walk_at "ne")))
/-- two places are two -/
local macro_rules | `(tactic| walk_at "ne") => `(tactic| first
  | assumption | exact Ne.symm (by assumption)
  | ((refine' ne_of_none ?ha ?hb); (case hb => assumption); (case ha => walk_at "hp")) | ((refine' Ne.symm (ne_of_none ?ha ?hb)); (case hb => assumption); (case ha => walk_at "hp")))
/-- what a dict tells -/
local macro_rules | `(tactic| walk_at "dg") => `(tactic| first | assumption)
/-- a length -/
local macro_rules | `(tactic| walk_at "sz") => `(tactic| first | (show _ ≤ sizeLine; decide) | (show _ < sizeLine; decide) | assumption | exact szlt (by simp) | exact szle (by simp))
/-- a list or tuple that stands -/
local macro_rules | `(tactic| walk_at "lk") => `(tactic| first | assumption | exact SqL.of (by assumption) | exact SqT.of (by assumption) | exact SqL.of upd_same | exact SqT.of upd_same | (refine' FzL.sq ?hm; (case hm => walk_at "fz")))
/-- a list that nobody writes -/
local macro_rules | `(tactic| walk_at "fz") => `(tactic| first | assumption | ((refine' FzL.uw ?hm ?hx); (case hx => walk_at "hp"); (case hm => walk_at "fz")) | ((refine' FzL.nw ?hm ?hx); (case hx => assumption); (case hm => walk_at "fz")))
/-- as far as it goes by itself -/
local macro_rules | `(tactic| walk_at "g") => `(tactic| repeat walk_at "g1")
/-- the body's reading, its places in short -/
local macro_rules | `(tactic| walk_at "go") => `(tactic| ((try dsimp only [cxOf, Cx.nox, Cx.wish]); walk_at "g"))
namespace K3
open PySem PySem.Spec PyProof.Rows L2 Bq
section
variable {P : Program} {w : World} {K : PySem.W.Frag} {mg : Str → Option Value} {base : Heap}
/-! ### counting things -/
def spThings (K : PySem.W.Frag) (n : Nat) : Sp := fun vs H Q _ => ∃ v t, vs = [v] ∧ Rep K H v t ∧ dpT t ≤ n ∧ ∀ H', Ch K [] H H' → Q (.int (thT t : Nat)) H'
theorem thTs_take : ∀ (ts : List T) (i : Nat) (t : T), ts[i]? = some t → thTs (ts.take (i + 1)) = thTs (ts.take i) + thT t
  | [], i, t, h => by simp at h
  | a :: r, 0, t, h => by
    have : a = t := Option.some.inj h
    subst this
    simp [thTs]
  | a :: r, i + 1, t, h => by
    have ih := thTs_take r i t h
    show thT a + thTs (r.take (i + 1)) = thT a + thTs (r.take i) + thT t
    rw [ih]
    omega
theorem dpTs_get : ∀ (ts : List T) (i : Nat) (t : T), ts[i]? = some t → dpT t ≤ dpTs ts
  | [], i, t, h => by simp at h
  | a :: r, 0, t, h => by
    have : a = t := Option.some.inj h
    subst this
    simp only [dpTs]
    omega
  | a :: r, i + 1, t, h => by
    have ih := dpTs_get r i t h
    simp only [dpTs]
    omega
theorem sum_thT : ∀ ts : List T, (ts.map fun t => ((thT t : Nat) : Int)).sum = (thTs ts : Nat)
  | [] => rfl
  | a :: r => by
    rw [List.map_cons, List.sum_cons, sum_thT r]
    simp only [thTs]
    omega
theorem things_step (C : Cn w K mg base) (k : Nat) (n : Nat) {sp : Sp} (F_law_things : Fn P w K mg base CX0 k "_law_things" ["_law_thing"] sp)
    (hsp : ∀ m, n = m + 1 → ∀ vs H Q E, spThings K m vs H Q E → sp vs H Q E) : Fn P w K mg base CX0 (k + 1) "_law_things" ["_law_thing"] (spThings K n) := C.f_law_things fun fd F => by
  refine F.ok (CX := CX0) sc_law_things (fun vs H Q E h => ?_) (fun cdv A outer s H vs Q E hr h => ?_)
  · obtain ⟨v, t, rfl, _⟩ := h
    rfl
  · obtain ⟨v, t, rfl, rep, hn, q⟩ := h
    refine ⟨_, PSs.nox (pss_cons (ps_if (pt_not (pt_val (pe_callB call_isi (by rfl) (C.m_isinstance) (by decide +kernel) (pa_cons (pv 0) (pa_cons (pe_bty "tuple" (by rfl) (C.m_tuple) (by decide +kernel)) pa_nil))))) (pss_one (ps_ret pe_int)) pss_nil)
      (pss_cons (ps_set (i := 1) sc_law_things.nd rfl (Or.inl rfl) (pe_callTy call_int1 (by rfl) (C.m_int) (by decide +kernel) (pa_cons (pe_mid (pe_and (pe_cmpR op_gt (pe_callB call_len_seq (by rfl) (C.m_len) PySem.boot_len (pa_cons (pv 0) pa_nil)) pe_int (nomark _)) (pe_one (pe_callB call_isi (by rfl) (C.m_isinstance) (by decide +kernel) (pa_cons (pe_ix ix_tup (pv 0) pe_int (fun _ _ => rfl)) (pa_cons (pe_bty "str" (by rfl) (C.m_str) (by decide +kernel)) pa_nil)))))) pa_nil)))
      (pss_one (ps_ret (pe_op op_add (pv 1) (pe_callB (cr_sum rfl) (by rfl) (C.m_sum) (by decide +kernel) (pa_cons (pe_lc (own := [("_law_one_here", 2)]) (g := gName 2) (tt := tYes) rfl sc_law_things.nd (pi_tup (pe_lens (pv 0))) (blkOk_by (own := [("_law_one_here", 2)]) (N := ["_law_thing", "_law_own", "_law_one_here"]) (sc := defScope s_law_things) (by decide +kernel)) (fun _ _ _ _ _ => pg_name (i := 2) sc_law_things.nd rfl (Or.inl rfl)) (fun _ _ _ _ _ => pts_nil) (fun _ _ _ _ _ => (pe_fn F_law_things (rmm hr) (by rfl) pass0 (pa_cons (pv 2) pa_nil)))) pa_nil))))))), ?_⟩
    walk_at "go"
    refine g_isi rep.ty (kit_tuple t) ?_
    walk_at "g"
    have q0 : (∀ ts, t ≠ .tup ts) → thT t = 0 := by
      intro h
      cases t with
      | int i => rfl
      | str i => rfl
      | tup ts => exact absurd rfl (h ts)
    refine iteB (fun h => ?_) (fun h => ?_)
    · walk_at "g"
      have h0 : thT t = 0 := q0 fun ts e => by rw [e] at h; cases h
      have h1 := q H Ch.refl
      rw [h0] at h1
      exact h1
    · walk_at "g"
      cases t with
      | int i => cases h
      | str i => cases h
      | tup ts =>
        clear h q0
        obtain ⟨a, vs, rfl, hS, reps⟩ := rep.tupI
        walk_at "g"
        refine g_midE (fun v H' => v = .bl (decide (ownT ts = 1)) ∧ H' = H) ?_ ?_
        · walk_at "g"
          refine iteB (fun h => ?_) (fun h => ?_)
          · have h1 := of_decide_eq_true h
            cases reps with
            | nil => simp at h1
            | cons r0 rr =>
              walk_at "g"
              refine g_ixT hS (atI_nat (j := 0) (List.getElem?_cons_zero)) ?_
              walk_at "g"
              refine g_isi r0.ty (kit_str _) ?_
              cases r0 with
              | int i => exact ⟨rfl, rfl⟩
              | str i => exact ⟨rfl, rfl⟩
              | tup _ _ => exact ⟨rfl, rfl⟩
          · cases reps with
            | nil => exact ⟨rfl, rfl⟩
            | cons r0 rr =>
              have h1 := of_decide_eq_false h
              exact absurd (by simp only [List.length_cons]; omega) h1
        · rintro _ H0 ⟨rfl, e0⟩
          rw [e0]
          clear e0 H0
          walk_at "g"
          intro LL
          have lv : vs.length ≤ sizeLine := LL.1 a vs hS
          have own1 : ownT ts ≤ 1 := by
            cases ts with
            | nil => exact Nat.zero_le _
            | cons t0 r0 => cases t0 <;> first | exact Nat.le_refl _ | exact Nat.zero_le _
          refine ⟨a, rfl, ⟨vs, hS⟩, fun D nD => ?_⟩
          refine lcT1 (xs := vs) (fun i H' => Ch K [] H H' ∧ H' D = some (.lst ((ts.take i).map fun t => V.int ((thT t : Nat) : Int)))) ⟨Ch.new nD, upd_same⟩ (fun i H' _ p => p.1.sqT hS) ?_ ?_
          · rintro i x H3 hx ⟨c3, eD⟩
            obtain ⟨t, ht, rt⟩ := reps.get hx
            have d1 := dpTs_get _ _ _ ht
            have hn2 : dpTs ts + 1 ≤ n := by simp only [dpT] at hn; omega
            have il : i < vs.length := (List.getElem?_eq_some_iff.mp hx).1
            walk_at "g"
            refine hsp (n - 1) (by omega) _ _ _ _ ⟨x, t, rfl, rt.kt c3.kt, by omega, fun H4 c4 => ?_⟩
            have eD4 := c4.up _ _ eD (by simp)
            refine ⟨_, eD4, ?_, Ch.wrN (c3.trans c4) nD eD4 rfl, ?_⟩
            · rw [List.length_map, List.length_take]
              omega
            · rw [upd_same, List.take_add_one, ht, List.map_append]
              rfl
          · rintro H3 ⟨c3, eD⟩
            have et : ts.take vs.length = ts := List.take_of_length_le (by rw [reps.len]; exact Nat.le_refl _)
            rw [et] at eD
            walk_at "g"
            refine ⟨D, ts.map fun t => ((thT t : Nat) : Int), rfl, ?_, ?_⟩
            · rw [List.map_map]
              exact SqL.of eD
            · rw [sum_thT]
              walk_at "g"
              have h1 := q H3 c3
              have e9 : (if decide (ownT ts = 1) = true then (1 : Int) else 0) + (thTs ts : Nat) = ((thT (.tup ts) : Nat) : Int) := by
                simp only [thT, decide_eq_true_eq]
                split <;> omega
              rw [← e9] at h1
              exact h1
theorem fn_things (C : Cn w K mg base) : ∀ n : Nat, Fn P w K mg base CX0 (n + 1) "_law_things" ["_law_thing"] (spThings K n)
  | 0 => things_step C 0 0 (sp := fun _ _ _ _ => False) (C.f_law_things fun fd F => ⟨fun _ _ _ _ h => h.elim, fun _ _ _ _ _ _ _ _ _ _ _ _ _ h => h.elim⟩) fun m h => by omega
  | n + 1 => things_step C (n + 1) (n + 1) (fn_things C n) fun m e _ _ _ _ h => by
    have : m = n := by omega
    rw [← this]
    exact h
end
end K3
end

section
set_option maxRecDepth 100000
set_option maxHeartbeats 1000000
open Bq L2
/-- one step of a reading; what is left are side goals and places to think -/
local macro_rules | `(tactic| walk_at "g1") => `(tactic| first
  | with_reducible refine' g_seq ?_ | with_reducible refine' g_asg ?_ | with_reducible refine' g_drop ?_ | with_reducible refine' g_ret ?_ | with_reducible refine' g_ifS ?_ | with_reducible refine' g_asgG ?_
  | ((with_reducible refine' g_var ?hv ?_); (case hv => rfl))
  | with_reducible refine' g_c ?_ | with_reducible refine' g_op ?_ | with_reducible refine' g_un ?_ | with_reducible refine' g_I0 ?_ | with_reducible refine' g_U ?_
  | with_reducible refine' g_test ?_ | with_reducible refine' g_tB ?_ | with_reducible refine Exists.intro _ (And.intro rfl ?_) 
  | ((with_reducible refine' g_andP ?ha ?hb ?_); (case ha => intro R q; walk_at "g"; exact q); (case hb => intro R q; walk_at "g"; exact q))
  | ((with_reducible refine' g_orP ?ha ?hb ?_); (case ha => intro R q; walk_at "g"; exact q); (case hb => intro R q; walk_at "g"; exact q))
  | with_reducible refine' g_and ?_ | with_reducible refine' g_or ?_ | with_reducible refine' g_not ?_
  | with_reducible refine' g_andV ?_ | with_reducible refine' g_orV ?_ | with_reducible refine' g_notV ?_ | with_reducible refine' g_if ?_ | with_reducible refine' g_nil ?_ | with_reducible refine' g_cons ?_
  | with_reducible refine' g_tup ?_ | with_reducible refine' g_lst ?_ | with_reducible refine' g_CB ?_ | with_reducible refine' g_Fn ?_ | with_reducible refine' g_next ?_ | with_reducible refine' g_retN ?_
  | with_reducible refine' g_name ?_ | with_reducible refine' g_sub ?_
  | ((with_reducible refine' g_ixL ?hs ?he ?_); (case hs => walk_at "lk"); (case he => walk_at "at"))
  | ((with_reducible refine' g_ixT ?hs ?he ?_); (case hs => walk_at "lk"); (case he => walk_at "at"))
  | ((with_reducible refine' g_setL ?hs ?he ?_); (case hs => walk_at "hp"); (case he => rfl))
  | ((with_reducible refine' g_app ?hs ?hz ?_); (case hs => walk_at "hp"); (case hz => walk_at "sz"))
  | ((with_reducible refine' ⟨_, _, rfl, Or.inl ?hs, ?_⟩); (case hs => walk_at "lk"))
  | ((with_reducible refine' ⟨_, _, rfl, Or.inr ?hs, ?_⟩); (case hs => walk_at "lk"))
  | with_reducible refine' g_BM ?_ | with_reducible refine' g_BM0 ?_ | ((with_reducible refine' g_tyL ?hs ?_); (case hs => walk_at "lk"))
  | with_reducible refine' g_sl ?_ | with_reducible refine' g_noPart ?_ | with_reducible refine' g_part ?_
  | ((with_reducible refine' g_inT ?hs ?fx ?fs ?_); (case hs => walk_at "lk"); (case fx => rfl); (case fs => rfl))
  | with_reducible refine' g_pair ?_ | with_reducible refine' g_pair0 ?_ | with_reducible refine' g_disp ?_
  | with_reducible refine' g_for ?_ | with_reducible refine' g_tupC ?_ | with_reducible refine' g_lstC ?_ | ((with_reducible refine' g_lens ?_)) | with_reducible refine' g_dg ?_ | with_reducible refine' g_lc ?_ | with_reducible refine' g_rng1 ?_ | with_reducible refine' g_ilist ?_ | with_reducible refine' g_itup ?_
  | ((with_reducible refine' ⟨_, _, rfl, ?hd, ?_⟩); (case hd => walk_at "dg"))
  | ((with_reducible refine' g_eqNil ?hs ?hz ?_); (case hs => walk_at "lk"); (case hz => walk_at "lk"))
  | ((with_reducible refine' g_neNil ?hs ?hz ?_); (case hs => walk_at "lk"); (case hz => walk_at "lk"))
  | with_reducible refine Or.inl ⟨_, rfl, ?_⟩
  | with_reducible refine Or.inr ⟨_, rfl, ?_⟩
  | ((with_reducible refine' g_eq ?hs ?_); (case hs => rfl))
  | ((with_reducible refine' g_ne ?hs ?_); (case hs => rfl))
  | ((with_reducible refine' g_I ?hc ?_); (case hc => walk_at "ar")))
/-- arithmetic's side conditions -/
local macro_rules | `(tactic| walk_at "ar") => `(tactic| (first
  | (show (0 : Int) < _; first | omega | decide) | (show (0 : Int) < _ ∧ _; constructor <;> omega) | (show ¬ (_ : Int) = _; omega) | (show (_ : Int) ≠ _ ∧ _; constructor <;> omega)
  | (show (-(2 ^ 64) < _ ∧ _) ∨ _; (first | (left; constructor <;> omega) | (right; constructor <;> omega))) | (show (0 : Int) ≤ _ ∧ _ ∧ _; refine ⟨by omega, by omega, by decide⟩)))
/-- what stands at an index -/
local macro_rules | `(tactic| walk_at "at") => `(tactic| first | rfl | assumption)
/-- what stands at an address -/
local macro_rules | `(tactic| walk_at "hp") => `(tactic| first | assumption | exact upd_same | ((refine' Eq.trans (upd_ne ?hn) ?hm); (case hm => walk_at "hp"); (case hn => walk_at "ne")))
/-- two places are two -/
local macro_rules | `(tactic| walk_at "ne") => `(tactic| first
  | assumption | exact Ne.symm (by assumption)
  | ((refine' ne_of_none ?ha ?hb); (case hb => assumption); (case ha => walk_at "hp")) | ((refine' Ne.symm (ne_of_none ?ha ?hb)); (case hb => assumption); (case ha => walk_at "hp")))
/-- what a dict tells -/
local macro_rules | `(tactic| walk_at "dg") => `(tactic| first | assumption)
/-- a length -/
local macro_rules | `(tactic| walk_at "sz") => `(tactic| first | (show _ ≤ sizeLine; decide) | (show _ < sizeLine; decide) | assumption | exact szlt (by simp) | exact szle (by simp))
/-- a list or tuple that stands -/
local macro_rules | `(tactic| walk_at "lk") => `(tactic| first | assumption | exact SqL.of (by assumption) | exact SqT.of (by assumption) | exact SqL.of upd_same | exact SqT.of upd_same | (refine' FzL.sq ?hm; (case hm => walk_at "fz")))
/-- a list that nobody writes -/
local macro_rules | `(tactic| walk_at "fz") => `(tactic| first | assumption | ((refine' FzL.uw ?hm ?hx); (case hx => walk_at "hp"); (case hm => walk_at "fz")) | ((refine' FzL.nw ?hm ?hx); (case hx => assumption); (case hm => walk_at "fz")))
/-- as far as it goes by itself -/
local macro_rules | `(tactic| walk_at "g") => `(tactic| repeat walk_at "g1")
/-- the body's reading, its places in short -/
local macro_rules | `(tactic| walk_at "go") => `(tactic| ((try dsimp only [cxOf, Cx.nox, Cx.wish]); walk_at "g"))
namespace K3
open PySem PySem.Spec PyProof.Rows L2 Bq
section
variable {P : Program} {w : World} {K : PySem.W.Frag} {mg : Str → Option Value} {base : Heap}
/-! ### deeds -/
structure GW (K : PySem.W.Frag) (H : Hp) (d wa : Addr) (nm : Int) (pl : Addr) (ps : List Nat) : Prop where
  dc : Dice K H d
  wd : H wa = some (.dK [(Sum.inr "names", .int nm), (Sum.inr "params", .ref pl)])
  hpl : H pl = some (.lst (ps.map fun n => V.int (n : Nat)))
  pd : pl ≠ d
  n0 : 0 ≤ nm
  n8 : nm ≤ 8
  l8 : ps.length ≤ 8
  p4 : ∀ n ∈ ps, n ≤ 4
section
variable {H H1 : Hp} {d wa r pl p : Addr} {nm rm x : Int} {ps : List Nat} {o : HO}
theorem GW.ch (g : GW K H d wa nm pl ps) (c : Ch K [d] H H1) (D : Dice K H1 d) : GW K H1 d wa nm pl ps := by
  obtain ⟨_, _, _, _, _, y⟩ := g.dc
  have h1 := ne_of g.wd y.h (by intro z; cases z)
  exact ⟨D, c.up _ _ g.wd (by simpa using h1), c.up _ _ g.hpl (by simpa using g.pd), g.pd, g.n0, g.n8, g.l8, g.p4⟩
theorem GW.nw (g : GW K H d wa nm pl ps) (n : H p = none) : GW K (upd H p o) d wa nm pl ps := g.ch (Ch.new n) (g.dc.nw n)
theorem GW.gi (g : GW K H d wa nm pl ps) (n : H r = none) : GI K (upd H r (.lst [.int x])) d wa r nm pl ps x := by
  have g' := g.nw (o := .lst [.int x]) n
  exact ⟨g'.dc, g'.wd, g'.hpl, upd_same, (g.dc.ne n).symm, g.pd, ne_of_none g.hpl n, g.n0, g.n8, g.l8, g.p4⟩
theorem GW.names (g : GW K H d wa nm pl ps) : DGet H wa (.str "names") (some (.int nm)) := by
  have h := DGet.k (k := Sum.inr "names") g.wd
  exact h
end
def spOne (K : PySem.W.Frag) : Sp := fun vs H Q _ => ∃ d wa nm pl ps m, vs = [.ref d, .ref wa, .int m] ∧ GW K H d wa nm pl ps ∧ 0 < m ∧ m ≤ 12 ∧
  ∀ H' v p, Ch K [d] H H' → Dice K H' d → Rep K H' v (encP p) → wfP nm.toNat ps p → szP p ≤ 18 → Q v H'
theorem fn_one (C : Cn w K mg base) : Fn P w K mg base CX0 28 "_law_one" ["_law_d", "_law_w", "_law_most"] (spOne K) := C.f_law_one fun fd F => by
  have F_law_next : Fn P w K mg base CX0 1 "_law_next" ["_law_dice_here", "_law_many"] (spNext K) := fn_next C
  have F_law_leaf : Fn P w K mg base CX0 2 "_law_leaf" ["_law_d", "_law_names"] (spLeaf K) := fn_leaf C
  have F_law_part : Fn P w K mg base CX0 14 "_law_part" ["_law_d", "_law_w", "_law_room"] (spPart K 12) := fn_part C 11
  have F_law_things : Fn P w K mg base CX0 27 "_law_things" ["_law_thing"] (spThings K 26) := fn_things C 26
  refine F.ok (CX := CX0) sc_law_one (fun vs H Q E h => ?_) (fun cdv A outer s H vs Q E hr h => ?_)
  · obtain ⟨d, wa, nm, pl, ps, m, rfl, _⟩ := h
    rfl
  · obtain ⟨d, wa, nm, pl, ps, m, rfl, g, m0, m1, q⟩ := h
    have hu := hu_of (rmm (j := 1) hr)
    refine ⟨_, PSs.nox (pss_cons (ps_set (i := 3) sc_law_one.nd rfl (Or.inl rfl) (pe_fn F_law_part (rmm hr) (by rfl) pass0 (pa_cons (pv 0) (pa_cons (pv 1) (pa_cons (pe_lst (pa_cons (pe_op op_add pe_int (pe_fn F_law_next (rmm hr) (by rfl) pass0 (pa_cons (pv 0) (pa_cons (pv 2) pa_nil)))) pa_nil)) pa_nil)))))
      (pss_one (ps_ret (pe_mid (pe_ifExp (pt_cmpR op_lt (pe_fn F_law_things (rmm hr) (by rfl) pass0 (pa_cons (pv 3) pa_nil)) pe_int (nomark _)) (pv 3) (pe_fn F_law_leaf (rmm hr) (by rfl) pass0 (pa_cons (pv 0) (pa_cons (pe_dget hu (pv 1) pe_str (fun _ _ => rfl)) pa_nil)))))))), ?_⟩
    walk_at "go"
    refine ⟨d, m, rfl, g.dc, m0, by omega, fun H1 n c1 D1 n0 n1 => ?_⟩
    have g1 := g.ch c1 D1
    walk_at "g"
    refine ⟨by show 1 ≤ sizeLine; decide, fun r nr => ?_⟩
    walk_at "g"
    refine ⟨d, wa, r, nm, pl, ps, 1 + n, rfl, g1.gi nr, by omega, fun H2 v p rm' c2 g2 _ rep wf dp => ?_⟩
    have c12 : Ch K [d] H H2 := c1.trans (c2.hide nr (by simp))
    walk_at "g"
    refine g_midE (fun v' H' => ∃ p', Ch K [d] H2 H' ∧ Dice K H' d ∧ Rep K H' v' (encP p') ∧ wfP nm.toNat ps p' ∧ szP p' ≤ 18) ?_ ?_
    · walk_at "g"
      have d1 := dpT_P p
      refine ⟨v, encP p, rfl, rep, by omega, fun H3 c3 => ?_⟩
      have D3 := g2.dc.ch c3 (by simp)
      rw [thT_P]
      walk_at "g"
      refine iteB (fun h => ?_) (fun h => ?_)
      · have h1 := of_decide_eq_true h
        walk_at "g"
        exact ⟨p, c3.mono (by simp), D3, rep.kt c3.kt, wf, by omega⟩
      · have g3 := (g.ch c12 g2.dc).ch (c3.mono (by simp)) D3
        have hn := g3.names
        walk_at "g"
        refine ⟨d, nm, rfl, D3, g.n0, g.n8, fun H4 v4 p4 c4 D4 rep4 wf4 s4 => ?_⟩
        exact ⟨p4, (c3.mono (by simp)).trans c4, D4, rep4, wf4 ps, by omega⟩
    · rintro v3 H3 ⟨p3, c3, D3, rep3, wf3, s3⟩
      exact q H3 v3 p3 (c12.trans c3) D3 rep3 wf3 s3
end
end K3
end

section
set_option maxRecDepth 100000
set_option maxHeartbeats 1000000
open Bq L2
/-- one step of a reading; what is left are side goals and places to think -/
local macro_rules | `(tactic| walk_at "g1") => `(tactic| first
  | with_reducible refine' g_seq ?_ | with_reducible refine' g_asg ?_ | with_reducible refine' g_drop ?_ | with_reducible refine' g_ret ?_ | with_reducible refine' g_ifS ?_ | with_reducible refine' g_asgG ?_
  | ((with_reducible refine' g_var ?hv ?_); (case hv => rfl))
  | with_reducible refine' g_c ?_ | with_reducible refine' g_op ?_ | with_reducible refine' g_un ?_ | with_reducible refine' g_I0 ?_ | with_reducible refine' g_U ?_
  | with_reducible refine' g_test ?_ | with_reducible refine' g_tB ?_ | with_reducible refine Exists.intro _ (And.intro rfl ?_) 
  | ((with_reducible refine' g_andP ?ha ?hb ?_); (case ha => intro R q; walk_at "g"; exact q); (case hb => intro R q; walk_at "g"; exact q))
  | ((with_reducible refine' g_orP ?ha ?hb ?_); (case ha => intro R q; walk_at "g"; exact q); (case hb => intro R q; walk_at "g"; exact q))
  | with_reducible refine' g_and ?_ | with_reducible refine' g_or ?_ | with_reducible refine' g_not ?_
  | with_reducible refine' g_andV ?_ | with_reducible refine' g_orV ?_ | with_reducible refine' g_notV ?_ | with_reducible refine' g_if ?_ | with_reducible refine' g_nil ?_ | with_reducible refine' g_cons ?_
  | with_reducible refine' g_tup ?_ | with_reducible refine' g_lst ?_ | with_reducible refine' g_CB ?_ | with_reducible refine' g_Fn ?_ | with_reducible refine' g_next ?_ | with_reducible refine' g_retN ?_
  | with_reducible refine' g_name ?_ | with_reducible refine' g_sub ?_
  | ((with_reducible refine' g_ixL ?hs ?he ?_); (case hs => walk_at "lk"); (case he => walk_at "at"))
  | ((with_reducible refine' g_ixT ?hs ?he ?_); (case hs => walk_at "lk"); (case he => walk_at "at"))
  | ((with_reducible refine' g_setL ?hs ?he ?_); (case hs => walk_at "hp"); (case he => rfl))
  | ((with_reducible refine' g_app ?hs ?hz ?_); (case hs => walk_at "hp"); (case hz => walk_at "sz"))
  | ((with_reducible refine' ⟨_, _, rfl, Or.inl ?hs, ?_⟩); (case hs => walk_at "lk"))
  | ((with_reducible refine' ⟨_, _, rfl, Or.inr ?hs, ?_⟩); (case hs => walk_at "lk"))
  | with_reducible refine' g_BM ?_ | with_reducible refine' g_BM0 ?_ | ((with_reducible refine' g_tyL ?hs ?_); (case hs => walk_at "lk"))
  | with_reducible refine' g_sl ?_ | with_reducible refine' g_noPart ?_ | with_reducible refine' g_part ?_
  | ((with_reducible refine' g_inT ?hs ?fx ?fs ?_); (case hs => walk_at "lk"); (case fx => rfl); (case fs => rfl))
  | with_reducible refine' g_pair ?_ | with_reducible refine' g_pair0 ?_ | with_reducible refine' g_disp ?_
  | with_reducible refine' g_for ?_ | with_reducible refine' g_tupC ?_ | with_reducible refine' g_lstC ?_ | ((with_reducible refine' g_lens ?_)) | with_reducible refine' g_dg ?_ | with_reducible refine' g_lc ?_ | with_reducible refine' g_rng1 ?_ | with_reducible refine' g_ilist ?_ | with_reducible refine' g_itup ?_
  | ((with_reducible refine' ⟨_, _, rfl, ?hd, ?_⟩); (case hd => walk_at "dg"))
  | ((with_reducible refine' g_eqNil ?hs ?hz ?_); (case hs => walk_at "lk"); (case hz => walk_at "lk"))
  | ((with_reducible refine' g_neNil ?hs ?hz ?_); (case hs => walk_at "lk"); (case hz => walk_at "lk"))
  | with_reducible refine Or.inl ⟨_, rfl, ?_⟩
  | with_reducible refine Or.inr ⟨_, rfl, ?_⟩
  | ((with_reducible refine' g_eq ?hs ?_); (case hs => rfl))
  | ((with_reducible refine' g_ne ?hs ?_); (case hs => rfl))
  | ((with_reducible refine' g_I ?hc ?_); (case hc => walk_at "ar")))
/-- arithmetic's side conditions -/
local macro_rules | `(tactic| walk_at "ar") => `(tactic| (first
  | (show (0 : Int) < _; first | omega | decide) | (show (0 : Int) < _ ∧ _; constructor <;> omega) | (show ¬ (_ : Int) = _; omega) | (show (_ : Int) ≠ _ ∧ _; constructor <;> omega)
  | (show (-(2 ^ 64) < _ ∧ _) ∨ _; (first | (left; constructor <;> omega) | (right; constructor <;> omega))) | (show (0 : Int) ≤ _ ∧ _ ∧ _; refine ⟨by omega, by omega, by decide⟩)))
/-- what stands at an index -/
local macro_rules | `(tactic| walk_at "at") => `(tactic| first | rfl | assumption)
/-- what stands at an address -/
local macro_rules | `(tactic| walk_at "hp") => `(tactic| first | assumption | exact upd_same | ((refine' Eq.trans (upd_ne ?hn) ?hm); (case hm => walk_at "hp"); (case hn => walk_at "ne")))
/-- two places are two -/
local macro_rules | `(tactic| walk_at "ne") => `(tactic| first
  | assumption | exact Ne.symm (by assumption)
  | ((refine' ne_of_none ?ha ?hb); (case hb => assumption); (case ha => walk_at "hp")) | ((refine' Ne.symm (ne_of_none ?ha ?hb)); (case hb => assumption); (case ha => walk_at "hp")))
/-- what a dict tells -/
local macro_rules | `(tactic| walk_at "dg") => `(tactic| first | assumption)
/-- a length -/
local macro_rules | `(tactic| walk_at "sz") => `(tactic| first | (show _ ≤ sizeLine; decide) | (show _ < sizeLine; decide) | assumption | exact szlt (by simp) | exact szle (by simp))
/-- a list or tuple that stands -/
local macro_rules | `(tactic| walk_at "lk") => `(tactic| first | assumption | exact SqL.of (by assumption) | exact SqT.of (by assumption) | exact SqL.of upd_same | exact SqT.of upd_same | (refine' FzL.sq ?hm; (case hm => walk_at "fz")))
/-- a list that nobody writes -/
local macro_rules | `(tactic| walk_at "fz") => `(tactic| first | assumption | ((refine' FzL.uw ?hm ?hx); (case hx => walk_at "hp"); (case hm => walk_at "fz")) | ((refine' FzL.nw ?hm ?hx); (case hx => assumption); (case hm => walk_at "fz")))
/-- as far as it goes by itself -/
local macro_rules | `(tactic| walk_at "g") => `(tactic| repeat walk_at "g1")
/-- the body's reading, its places in short -/
local macro_rules | `(tactic| walk_at "go") => `(tactic| ((try dsimp only [cxOf, Cx.nox, Cx.wish]); walk_at "g"))
namespace K3
open PySem PySem.Spec PyProof.Rows L2 Bq
section
variable {P : Program} {w : World} {K : PySem.W.Frag} {mg : Str → Option Value} {base : Heap}
def spDeed (K : PySem.W.Frag) (dp : Nat) : Sp := fun vs H Q _ => ∃ d wa nm pl ps, vs = [.ref d, .ref wa, .int (dp : Nat)] ∧ GW K H d wa nm pl ps ∧
  ∀ H' v D, Ch K [d] H H' → Dice K H' d → Rep K H' v (encDd D) → wfD nm.toNat ps dp D → Q v H'
def spBody (K : PySem.W.Frag) (dp : Nat) : Sp := fun vs H Q _ => ∃ d wa nm pl ps, vs = [.ref d, .ref wa, .int (dp : Nat)] ∧ GW K H d wa nm pl ps ∧
  ∀ H' v b, Ch K [d] H H' → Dice K H' d → Rep K H' v (.tup (encB b)) → wfBs nm.toNat ps (dp + 1) b → b.length ≤ 4 → Q v H'
theorem one_use {H : Hp} {Q : VK} {E : XK} {d wa pl : Addr} {nm m : Int} {ps : List Nat} (g : GW K H d wa nm pl ps) (m0 : 0 < m) (m1 : m ≤ 12)
    (k : ∀ H' v p, Ch K [d] H H' → GW K H' d wa nm pl ps → Rep K H' v (encP p) → wfP nm.toNat ps p → szP p ≤ 18 → Q v H') : spOne K [.ref d, .ref wa, .int m] H Q E :=
  ⟨d, wa, nm, pl, ps, m, rfl, g, m0, m1, fun H' v p c D r wf s => k H' v p c (g.ch c D) r wf s⟩
theorem deed_step (C : Cn w K mg base) (k : Nat) (hk : 28 ≤ k) (dp : Nat) {spB spW : Sp} (F_law_body : Fn P w K mg base CX0 k "_law_body" ["_law_d", "_law_w", "_law_deep"] spB)
    (F_law_while : Fn P w K mg base CX0 k "_law_while" ["_law_d", "_law_w", "_law_deep"] spW) (hB : ∀ m, dp = m + 1 → ∀ vs H Q E, spBody K m vs H Q E → spB vs H Q E)
    (hW : 0 < dp → ∀ vs H Q E, spDeed K dp vs H Q E → spW vs H Q E) : Fn P w K mg base CX0 (k + 1) "_law_deed" ["_law_d", "_law_w", "_law_deep"] (spDeed K dp) := C.f_law_deed fun fd F => by
  have F_law_next : Fn P w K mg base CX0 1 "_law_next" ["_law_dice_here", "_law_many"] (spNext K) := fn_next C
  have F_law_leaf : Fn P w K mg base CX0 2 "_law_leaf" ["_law_d", "_law_names"] (spLeaf K) := fn_leaf C
  have F_law_one : Fn P w K mg base CX0 28 "_law_one" ["_law_d", "_law_w", "_law_most"] (spOne K) := fn_one C
  refine F.ok (CX := CX0) sc_law_deed (fun vs H Q E h => ?_) (fun cdv A outer s H vs Q E hr h => ?_)
  · obtain ⟨d, wa, nm, pl, ps, rfl, _⟩ := h
    rfl
  · obtain ⟨d, wa, nm, pl, ps, rfl, g, q⟩ := h
    have hu := hu_of (rmm (j := 1) hr)
    refine ⟨_, PSs.nox (pss_cons (ps_set (i := 3) sc_law_deed.nd rfl (Or.inl rfl) (pe_fn F_law_next (rmm hr) (by rfl) pass0 (pa_cons (pv 0) (pa_cons pe_int pa_nil))))
      (pss_cons (ps_if (PW.pt (pw_and (pt_cmpR op_lt (pv 3) pe_int (nomark _)) (pw_and1 (pt_cmpR op_gt (pe_dget hu (pv 1) pe_str (fun _ _ => rfl)) pe_int (nomark _))))) (pss_one (ps_ret (pe_tup (pa_cons pe_str (pa_cons (pe_fn F_law_next (rmm hr) (by rfl) pass0 (pa_cons (pv 0) (pa_cons (pe_dget hu (pv 1) pe_str (fun _ _ => rfl)) pa_nil))) (pa_cons (pe_fn F_law_one (rmm hr) (by rfl) pass0 (pa_cons (pv 0) (pa_cons (pv 1) (pa_cons pe_int pa_nil)))) pa_nil)))))) pss_nil)
      (pss_cons (ps_if (pt_cmpR op_lt (pv 3) pe_int (nomark _)) (pss_one (ps_ret (pe_tup (pa_cons pe_str (pa_cons (pe_fn F_law_one (rmm hr) (by rfl) pass0 (pa_cons (pv 0) (pa_cons (pv 1) (pa_cons pe_int pa_nil)))) pa_nil))))) pss_nil)
      (pss_cons (ps_if (pt_cmpR op_lt (pv 3) pe_int (nomark _)) (pss_one (ps_ret (pe_tup (pa_cons pe_str (pa_cons (pe_mid (pe_ifExp (pt_cmpR op_gt (pe_fn F_law_next (rmm hr) (by rfl) pass0 (pa_cons (pv 0) (pa_cons pe_int pa_nil))) pe_int (nomark _)) (pe_fn F_law_leaf (rmm hr) (by rfl) pass0 (pa_cons (pv 0) (pa_cons pe_int pa_nil))) (pe_fn F_law_one (rmm hr) (by rfl) pass0 (pa_cons (pv 0) (pa_cons (pv 1) (pa_cons pe_int pa_nil)))))) (pa_cons (pe_fn F_law_one (rmm hr) (by rfl) pass0 (pa_cons (pv 0) (pa_cons (pv 1) (pa_cons pe_int pa_nil)))) pa_nil)))))) pss_nil)
      (pss_cons (ps_if (PW.pt (pw_and (pt_cmpR op_eq (pv 3) pe_int (nomark _)) (pw_and1 (pt_cmpR op_gt (pv 2) pe_int (nomark _))))) (pss_one (ps_ret (pe_tup (pa_cons pe_str (pa_cons (pe_fn F_law_one (rmm hr) (by rfl) pass0 (pa_cons (pv 0) (pa_cons (pv 1) (pa_cons pe_int pa_nil)))) (pa_cons (pe_fn F_law_body (rmm hr) (by rfl) pass0 (pa_cons (pv 0) (pa_cons (pv 1) (pa_cons (pe_op op_sub (pv 2) pe_int) pa_nil)))) (pa_cons (pe_fn F_law_body (rmm hr) (by rfl) pass0 (pa_cons (pv 0) (pa_cons (pv 1) (pa_cons (pe_op op_sub (pv 2) pe_int) pa_nil)))) pa_nil))))))) pss_nil)
      (pss_cons (ps_if (PW.pt (pw_and (pt_cmpR op_eq (pv 3) pe_int (nomark _)) (pw_and1 (pt_cmpR op_gt (pv 2) pe_int (nomark _))))) (pss_one (ps_ret (pe_fn F_law_while (rmm hr) (by rfl) pass0 (pa_cons (pv 0) (pa_cons (pv 1) (pa_cons (pv 2) pa_nil)))))) pss_nil)
      (pss_cons (ps_if (pt_cmpR op_eq (pv 3) pe_int (nomark _)) (pss_one (ps_ret (pe_mid (pe_ifExp (pt_cmpR op_eq (pe_fn F_law_next (rmm hr) (by rfl) pass0 (pa_cons (pv 0) (pa_cons pe_int pa_nil))) pe_int (nomark _)) (pe_tup (pa_cons pe_str (pa_cons (pe_fn F_law_one (rmm hr) (by rfl) pass0 (pa_cons (pv 0) (pa_cons (pv 1) (pa_cons pe_int pa_nil)))) pa_nil))) (pe_tup (pa_cons pe_str (pa_cons (pe_fn F_law_leaf (rmm hr) (by rfl) pass0 (pa_cons (pv 0) (pa_cons (pe_dget hu (pv 1) pe_str (fun _ _ => rfl)) pa_nil))) pa_nil))))))) pss_nil)
      (pss_one (ps_ret (pe_tup (pa_cons pe_str (pa_cons (pe_fn F_law_one (rmm hr) (by rfl) pass0 (pa_cons (pv 0) (pa_cons (pv 1) (pa_cons pe_int pa_nil)))) pa_nil)))))))))))), ?_⟩
    walk_at "go"
    refine ⟨d, 14, rfl, g.dc, by decide, by decide, fun H1 way c1 D1 w0 w1 => ?_⟩
    have g1 := g.ch c1 D1
    have hn := g1.names
    walk_at "g"
    refine iteB (fun h => ?_) (fun h => ?_)
    · have h2 : way < 4 ∧ 0 < nm := by simpa using h
      walk_at "g"
      refine ⟨d, nm, rfl, D1, h2.2, by have := g.n8; omega, fun H2 i c2 D2 i0 i1 => ?_⟩
      walk_at "g"
      refine one_use (g1.ch c2 D2) (by decide) (by decide) fun H3 v p c3 g3 rep wf sz => ?_
      walk_at "g"
      refine ⟨by show 3 ≤ sizeLine; decide, fun t nt => ?_⟩
      have ei : i = (i.toNat : Int) := by omega
      refine q _ _ (.set i.toNat p) ((c1.trans c2).trans (c3.trans (Ch.new nt))) (g3.dc.nw nt) (.tup (SqT.of upd_same) (.cons (.str _) (.cons ?_ (.cons (rep.kt (Ch.new (S := []) nt).kt) .nil)))) ⟨by omega, wf, by omega⟩
      rw [ei]
      exact .int _
    · walk_at "g"
      refine iteB (fun h => ?_) (fun h => ?_)
      · walk_at "g"
        refine one_use g1 (by decide) (by decide) fun H3 v p c3 g3 rep wf sz => ?_
        walk_at "g"
        refine ⟨by show 2 ≤ sizeLine; decide, fun t nt => ?_⟩
        exact q _ _ (.say p) (c1.trans (c3.trans (Ch.new nt))) (g3.dc.nw nt) (.tup (SqT.of upd_same) (.cons (.str _) (.cons (rep.kt (Ch.new (S := []) nt).kt) .nil))) ⟨wf, by omega⟩
      · walk_at "g"
        refine iteB (fun h => ?_) (fun h => ?_)
        · walk_at "g"
          refine g_midE (fun v' H' => ∃ p', Ch K [d] H H' ∧ GW K H' d wa nm pl ps ∧ Rep K H' v' (encP p') ∧ wfP nm.toNat ps p' ∧ szP p' ≤ 18) ?_ ?_
          · walk_at "g"
            refine ⟨d, 4, rfl, D1, by decide, by decide, fun H2 j c2 D2 j0 j1 => ?_⟩
            have g2 := g1.ch c2 D2
            walk_at "g"
            refine iteB (fun h => ?_) (fun h => ?_)
            · walk_at "g"
              refine ⟨d, 0, rfl, D2, by decide, by decide, fun H3 v p c3 D3 rep wf sz => ?_⟩
              exact ⟨p, (c1.trans c2).trans c3, g2.ch c3 D3, rep, wfP_mono (Nat.zero_le _) (wf ps), by omega⟩
            · walk_at "g"
              refine one_use g2 (by decide) (by decide) fun H3 v p c3 g3 rep wf sz => ?_
              exact ⟨p, (c1.trans c2).trans c3, g3, rep, wf, sz⟩
          · clear hn g1 D1 c1 H1
            rintro v1 H1 ⟨p1, c1, g1, rep1, wf1, s1⟩
            walk_at "g"
            refine one_use g1 (by decide) (by decide) fun H3 v p c3 g3 rep wf sz => ?_
            walk_at "g"
            refine ⟨by show 3 ≤ sizeLine; decide, fun t nt => ?_⟩
            have cc := c3.trans (Ch.new nt (o := .tup [.str "put", v1, v]))
            exact q _ _ (.put p1 p) (c1.trans cc) (g3.dc.nw nt) (.tup (SqT.of upd_same) (.cons (.str _) (.cons (rep1.kt cc.kt) (.cons (rep.kt (Ch.new (S := []) nt).kt) .nil)))) ⟨wf1, wf, by omega⟩
        · walk_at "g"
          refine iteB (fun h => ?_) (fun h => ?_)
          · have h2 : way = 9 ∧ 0 < dp := by simpa using h
            obtain ⟨m, rfl⟩ : ∃ m, dp = m + 1 := ⟨dp - 1, by omega⟩
            have hB' := hB m rfl
            have em : (((m + 1 : Nat) : Int) - 1) = (m : Nat) := by omega
            walk_at "g"
            refine one_use g1 (by decide) (by decide) fun H3 v p c3 g3 rep wf sz => ?_
            walk_at "g"
            rw [em]
            refine hB' _ _ _ _ ⟨d, wa, nm, pl, ps, rfl, g3, fun H4 va ba c4 D4 ra wa4 _ => ?_⟩
            have g4 := g3.ch c4 D4
            walk_at "g"
            rw [em]
            refine hB' _ _ _ _ ⟨d, wa, nm, pl, ps, rfl, g4, fun H5 vb bb c5 D5 rb wb5 _ => ?_⟩
            walk_at "g"
            refine ⟨by show 4 ≤ sizeLine; decide, fun t nt => ?_⟩
            have k5 := c5.trans (Ch.new nt (o := .tup [.str "if", v, va, vb]))
            have k4 := c4.trans k5
            exact q _ _ (.ite p ba bb) (c1.trans (c3.trans k4)) (D5.nw nt) (.tup (SqT.of upd_same) (.cons (.str _) (.cons (rep.kt k4.kt) (.cons (ra.kt k5.kt) (.cons (rb.kt (Ch.new (S := []) nt).kt) .nil))))) ⟨wf, by omega, wa4, wb5⟩
          · walk_at "g"
            refine iteB (fun h => ?_) (fun h => ?_)
            · have h2 : way = 10 ∧ 0 < dp := by simpa using h
              walk_at "g"
              refine hW h2.2 _ _ _ _ ⟨d, wa, nm, pl, ps, rfl, g1, fun H4 v D c4 D4 r wf => ?_⟩
              exact q _ _ D (c1.trans c4) D4 r wf
            · walk_at "g"
              refine iteB (fun h => ?_) (fun h => ?_)
              · walk_at "g"
                refine g_midE (fun v' H' => ∃ D, Ch K [d] H H' ∧ Dice K H' d ∧ Rep K H' v' (encDd D) ∧ wfD nm.toNat ps dp D) ?_ ?_
                · walk_at "g"
                  refine ⟨d, 2, rfl, D1, by decide, by decide, fun H2 j c2 D2 j0 j1 => ?_⟩
                  have g2 := g1.ch c2 D2
                  have hn2 := g2.names
                  walk_at "g"
                  refine iteB (fun h => ?_) (fun h => ?_)
                  · walk_at "g"
                    refine one_use g2 (by decide) (by decide) fun H3 v p c3 g3 rep wf sz => ?_
                    walk_at "g"
                    refine ⟨by show 2 ≤ sizeLine; decide, fun t nt => ?_⟩
                    exact ⟨.ret p, (c1.trans c2).trans (c3.trans (Ch.new nt)), g3.dc.nw nt, .tup (SqT.of upd_same) (.cons (.str _) (.cons (rep.kt (Ch.new (S := []) nt).kt) .nil)), wf, by omega⟩
                  · walk_at "g"
                    refine ⟨d, nm, rfl, D2, g.n0, g.n8, fun H3 v p c3 D3 rep wf sz => ?_⟩
                    walk_at "g"
                    refine ⟨by show 2 ≤ sizeLine; decide, fun t nt => ?_⟩
                    exact ⟨.say p, (c1.trans c2).trans (c3.trans (Ch.new nt)), D3.nw nt, .tup (SqT.of upd_same) (.cons (.str _) (.cons (rep.kt (Ch.new (S := []) nt).kt) .nil)), wf ps, by omega⟩
                · rintro v H3 ⟨D, c3, D3, r3, w3⟩
                  exact q _ _ D c3 D3 r3 w3
              · walk_at "g"
                refine one_use g1 (by decide) (by decide) fun H3 v p c3 g3 rep wf sz => ?_
                walk_at "g"
                refine ⟨by show 2 ≤ sizeLine; decide, fun t nt => ?_⟩
                exact q _ _ (.dop p) (c1.trans (c3.trans (Ch.new nt))) (g3.dc.nw nt) (.tup (SqT.of upd_same) (.cons (.str _) (.cons (rep.kt (Ch.new (S := []) nt).kt) .nil))) ⟨wf, by omega⟩
theorem encB_app : ∀ (a b : List Dd), encB (a ++ b) = encB a ++ encB b
  | [], b => rfl
  | p :: r, b => congrArg (encDd p :: ·) (encB_app r b)
theorem encB_len : ∀ b : List Dd, (encB b).length = b.length
  | [] => rfl
  | _ :: r => congrArg Nat.succ (encB_len r)
theorem wfBs_app {n : Nat} {ps : List Nat} {m : Nat} : ∀ {a b : List Dd}, wfBs n ps (m + 1) a → wfBs n ps (m + 1) b → wfBs n ps (m + 1) (a ++ b)
  | [], b, _, h => h
  | p :: r, b, h, k => ⟨h.1, wfBs_app h.2 k⟩
theorem while_step (C : Cn w K mg base) (k : Nat) (hk : 28 ≤ k) (m : Nat) (F_law_body : Fn P w K mg base CX0 k "_law_body" ["_law_d", "_law_w", "_law_deep"] (spBody K m)) :
    Fn P w K mg base CX0 (k + 1) "_law_while" ["_law_d", "_law_w", "_law_deep"] (spDeed K (m + 1)) := C.f_law_while fun fd F => by
  have F_law_next : Fn P w K mg base CX0 1 "_law_next" ["_law_dice_here", "_law_many"] (spNext K) := fn_next C
  refine F.ok (CX := CX0) sc_law_while (fun vs H Q E h => ?_) (fun cdv A outer s H vs Q E hr h => ?_)
  · obtain ⟨d, wa, nm, pl, ps, rfl, _⟩ := h
    rfl
  · obtain ⟨d, wa, nm, pl, ps, rfl, g, q⟩ := h
    have hu := hu_of (rmm (j := 1) hr)
    refine ⟨_, PSs.nox (pss_cons (ps_set (i := 3) sc_law_while.nd rfl (Or.inl rfl) (pe_fn F_law_body (rmm hr) (by rfl) pass0 (pa_cons (pv 0) (pa_cons (pv 1) (pa_cons (pe_op op_sub (pv 2) pe_int) pa_nil)))))
      (pss_cons (ps_if (pt_mid (PW.pt (pw_and (pt_cmpR op_gt (pe_dget hu (pv 1) pe_str (fun _ _ => rfl)) pe_int (nomark _)) (pw_and1 (pt_cmpR op_gt (pe_fn F_law_next (rmm hr) (by rfl) pass0 (pa_cons (pv 0) (pa_cons pe_int pa_nil))) pe_int (nomark _)))))) (pss_cons (ps_set (i := 4) sc_law_while.nd rfl (Or.inl rfl) (pe_fn F_law_next (rmm hr) (by rfl) pass0 (pa_cons (pv 0) (pa_cons (pe_dget hu (pv 1) pe_str (fun _ _ => rfl)) pa_nil))))
      (pss_cons (ps_set (i := 5) sc_law_while.nd rfl (Or.inl rfl) (pe_tupC (pa_cons pe_str (pa_cons (pv 4) (pa_cons (pe_tupC (pa_cons pe_str (pa_cons (pe_tupC (pa_cons pe_str (pa_cons (pv 4) pa_nil))) (pa_cons (pe_tupC (pa_cons pe_str (pa_cons pe_int pa_nil))) pa_nil)))) pa_nil)))))
      (pss_one (ps_ret (pe_tupC (pa_cons pe_str (pa_cons (pe_tupC (pa_cons pe_str (pa_cons (pe_tupC (pa_cons pe_str (pa_cons pe_int pa_nil))) (pa_cons (pe_tupC (pa_cons pe_str (pa_cons (pv 4) pa_nil))) pa_nil)))) (pa_cons (pe_op op_catR (pv 3) (pe_tupC (pa_cons (pv 5) pa_nil))) pa_nil)))))))) pss_nil)
      (pss_cons (ps_set (i := 6) sc_law_while.nd rfl (Or.inl rfl) (pe_tupC (pa_cons pe_str (pa_cons (pe_fn F_law_next (rmm hr) (by rfl) pass0 (pa_cons (pv 0) (pa_cons pe_int pa_nil))) pa_nil))))
      (pss_cons (ps_set (i := 5) sc_law_while.nd rfl (Or.inl rfl) (pe_tupC (pa_cons pe_str (pa_cons (pv 6) (pa_cons (pe_tupC (pa_cons pe_str (pa_cons (pe_tupC (pa_cons pe_str (pa_cons (pv 6) pa_nil))) (pa_cons (pe_tupC (pa_cons pe_str (pa_cons pe_int pa_nil))) pa_nil)))) pa_nil)))))
      (pss_one (ps_ret (pe_tupC (pa_cons pe_str (pa_cons (pe_tupC (pa_cons pe_str (pa_cons (pe_tupC (pa_cons pe_str (pa_cons (pv 6) pa_nil))) (pa_cons (pe_tupC (pa_cons pe_str (pa_cons (pe_fn F_law_next (rmm hr) (by rfl) pass0 (pa_cons (pv 0) (pa_cons pe_int pa_nil))) pa_nil))) pa_nil)))) (pa_cons (pe_op op_catR (pv 3) (pe_tupC (pa_cons (pv 5) pa_nil))) pa_nil)))))))))), ?_⟩
    have em : (((m + 1 : Nat) : Int) - 1) = (m : Nat) := by omega
    walk_at "go"
    rw [em]
    refine ⟨d, wa, nm, pl, ps, rfl, g, fun H1 vb b c1 D1 rb wb lb => ?_⟩
    have g1 := g.ch c1 D1
    have hn := g1.names
    walk_at "g"
    refine g_mid (fun b H' => (b = true → 0 < nm) ∧ Ch K [d] H1 H' ∧ Dice K H' d) ?_ ?_
    · walk_at "g"
      refine iteB (fun h => ?_) (fun h => ?_)
      · have h0 := of_decide_eq_true h
        walk_at "g"
        refine ⟨d, 5, rfl, D1, by decide, by decide, fun H2 j c2 D2 j0 j1 => ?_⟩
        walk_at "g"
        exact ⟨fun _ => h0, c2, D2⟩
      · exact ⟨fun z => (by cases z), Ch.refl, D1⟩
    · rintro bb H2 ⟨hb, c2, D2⟩
      have g2 := g1.ch c2 D2
      have hn2 := g2.names
      obtain ⟨ab, vs, rfl, hS, reps⟩ := rb.tupI
      refine iteB (fun h => ?_) (fun h => ?_)
      · walk_at "g"
        refine ⟨d, nm, rfl, D2, hb h, by have := g.n8; omega, fun H3 i c3 D3 i0 i1 => ?_⟩
        have c23 := c2.trans c3
        have hi : i.toNat < nm.toNat := by omega
        obtain ⟨i, rfl⟩ : ∃ j : Nat, i = j := ⟨i.toNat, by omega⟩
        walk_at "g"
        refine ⟨szle (by simp), fun t1 H4 _ ec4 c4 => ?_⟩
        have r1 : Rep K H4 (.ref t1) (.tup _) := .tup (SqT.of ec4) (Reps.kt c4.kt (.cons (.str _) (.cons (.int _) .nil)))
        walk_at "g"
        refine ⟨szle (by simp), fun t2 H5 _ ec5 c5 => ?_⟩
        have r2 : Rep K H5 (.ref t2) (.tup _) := .tup (SqT.of ec5) (Reps.kt c5.kt (.cons (.str _) (.cons (.int _) .nil)))
        walk_at "g"
        refine ⟨szle (by simp), fun t3 H6 _ ec6 c6 => ?_⟩
        have r3 : Rep K H6 (.ref t3) (.tup _) := .tup (SqT.of ec6) (Reps.kt c6.kt (.cons (.str _) (.cons (r1.kt c5.kt) (.cons r2 .nil))))
        walk_at "g"
        refine ⟨szle (by simp), fun t4 H7 _ ec7 c7 => ?_⟩
        have r4 : Rep K H7 (.ref t4) (.tup _) := .tup (SqT.of ec7) (Reps.kt c7.kt (.cons (.str _) (.cons (.int _) (.cons r3 .nil))))
        walk_at "g"
        refine ⟨szle (by simp), fun t5 H8 _ ec8 c8 => ?_⟩
        have r5 : Rep K H8 (.ref t5) (.tup _) := .tup (SqT.of ec8) (Reps.kt c8.kt (.cons (.str _) (.cons (.int _) .nil)))
        walk_at "g"
        refine ⟨szle (by simp), fun t6 H9 _ ec9 c9 => ?_⟩
        have r6 : Rep K H9 (.ref t6) (.tup _) := .tup (SqT.of ec9) (Reps.kt c9.kt (.cons (.str _) (.cons (.int _) .nil)))
        walk_at "g"
        refine ⟨szle (by simp), fun t7 H10 _ ec10 c10 => ?_⟩
        have r7 : Rep K H10 (.ref t7) (.tup _) := .tup (SqT.of ec10) (Reps.kt c10.kt (.cons (.str _) (.cons (r5.kt c9.kt) (.cons r6 .nil))))
        walk_at "g"
        have c710 := c8.trans (c9.trans c10)
        refine ⟨szle (by simp), fun t8 H11 _ ec11 c11 => ?_⟩
        have r8 : Rep K H11 (.ref t8) (.tup _) := .tup (SqT.of ec11) (Reps.kt c11.kt (.cons (r4.kt c710.kt) .nil))
        walk_at "g"
        have c311 := c4.trans (c5.trans (c6.trans (c7.trans (c710.trans c11))))
        have lb2 : (encB b).length ≤ 4 := by rw [encB_len]; exact lb
        refine ⟨_, _, rb.kt (c23.kt.trans c311.kt), r8, (by simp only [List.length_cons, List.length_nil]; omega), fun v9 H12 c12 r9 => ?_⟩
        walk_at "g"
        refine ⟨szle (by simp), fun t9 H13 _ ec13 c13 => ?_⟩
        have r10 : Rep K H13 (.ref t9) (.tup _) := .tup (SqT.of ec13) (Reps.kt c13.kt (.cons (.str _) (.cons (r7.kt (c11.trans c12).kt) (.cons r9 .nil))))
        have c313 := (c311.trans (c12.trans c13)).mono (S' := [d]) (by simp)
        have e := encB_app b [.set i (.bin .take (.name i) (.num 1))]
        refine q _ _ (.whl (.bin .less (.num 0) (.name i)) (b ++ [.set i (.bin .take (.name i) (.num 1))])) ((c1.trans c23).trans c313) (D3.ch (c311.trans (c12.trans c13)) (by simp)) ?_ ⟨⟨⟨by decide, by decide⟩, hi⟩, by simp [szP], wfBs_app wb (show wfBs nm.toNat ps (m + 1) [.set i (.bin .take (.name i) (.num 1))] from ⟨⟨hi, ⟨hi, by decide, by decide⟩, by simp [szP]⟩, trivial⟩)⟩
        simp only [encDd, encP, e]
        exact r10
      · walk_at "g"
        refine ⟨d, 9, rfl, D2, by decide, by decide, fun H3 i c3 D3 i0 i1 => ?_⟩
        have c23 := c2.trans c3
        walk_at "g"
        refine ⟨szle (by simp), fun t1 H4 _ ec4 c4 => ?_⟩
        have r1 : Rep K H4 (.ref t1) (.tup _) := .tup (SqT.of ec4) (Reps.kt c4.kt (.cons (.str _) (.cons (.int _) .nil)))
        walk_at "g"
        refine ⟨szle (by simp), fun t2 H5 _ ec5 c5 => ?_⟩
        have r2 : Rep K H5 (.ref t2) (.tup _) := .tup (SqT.of ec5) (Reps.kt c5.kt (.cons (.str _) (.cons r1 .nil)))
        walk_at "g"
        refine ⟨szle (by simp), fun t3 H6 _ ec6 c6 => ?_⟩
        have r3 : Rep K H6 (.ref t3) (.tup _) := .tup (SqT.of ec6) (Reps.kt c6.kt (.cons (.str _) (.cons (.int _) .nil)))
        walk_at "g"
        refine ⟨szle (by simp), fun t4 H7 _ ec7 c7 => ?_⟩
        have r4 : Rep K H7 (.ref t4) (.tup _) := .tup (SqT.of ec7) (Reps.kt c7.kt (.cons (.str _) (.cons (r2.kt c6.kt) (.cons r3 .nil))))
        walk_at "g"
        have c57 := c5.trans (c6.trans c7)
        refine ⟨szle (by simp), fun t5 H8 _ ec8 c8 => ?_⟩
        have r5 : Rep K H8 (.ref t5) (.tup _) := .tup (SqT.of ec8) (Reps.kt c8.kt (.cons (.str _) (.cons (r1.kt c57.kt) (.cons r4 .nil))))
        walk_at "g"
        have r1' := r1.kt (c57.trans c8).kt
        refine ⟨szle (by simp), fun t6 H9 _ ec9 c9 => ?_⟩
        have r6 : Rep K H9 (.ref t6) (.tup _) := .tup (SqT.of ec9) (Reps.kt c9.kt (.cons (.str _) (.cons r1' .nil)))
        have c39 := c4.trans (c57.trans (c8.trans c9))
        have D9 := D3.ch c39 (by simp)
        walk_at "g"
        refine ⟨d, 6, rfl, D9, by decide, by decide, fun H10 j c10 D10 j0 j1 => ?_⟩
        walk_at "g"
        refine ⟨szle (by simp), fun t7 H11 _ ec11 c11 => ?_⟩
        have r7 : Rep K H11 (.ref t7) (.tup _) := .tup (SqT.of ec11) (Reps.kt c11.kt (.cons (.str _) (.cons (.int _) .nil)))
        walk_at "g"
        refine ⟨szle (by simp), fun t8 H12 _ ec12 c12 => ?_⟩
        have r8 : Rep K H12 (.ref t8) (.tup _) := .tup (SqT.of ec12) (Reps.kt c12.kt (.cons (.str _) (.cons (r6.kt (c10.kt.trans c11.kt)) (.cons r7 .nil))))
        walk_at "g"
        have k812 := c9.kt.trans (c10.kt.trans (c11.kt.trans c12.kt))
        refine ⟨szle (by simp), fun t9 H13 _ ec13 c13 => ?_⟩
        have r9 : Rep K H13 (.ref t9) (.tup _) := .tup (SqT.of ec13) (Reps.kt c13.kt (.cons (r5.kt k812) .nil))
        walk_at "g"
        have lb2 : (encB b).length ≤ 4 := by rw [encB_len]; exact lb
        have c313 : Ch K [d] H3 H13 := (c39.mono (by simp)).trans (c10.trans ((c11.trans (c12.trans c13)).mono (by simp)))
        refine ⟨_, _, rb.kt (c23.kt.trans c313.kt), r9, (by simp only [List.length_cons, List.length_nil]; omega), fun v9 H14 c14 r10 => ?_⟩
        walk_at "g"
        refine ⟨szle (by simp), fun t10 H15 _ ec15 c15 => ?_⟩
        have r11 : Rep K H15 (.ref t10) (.tup _) := .tup (SqT.of ec15) (Reps.kt c15.kt (.cons (.str _) (.cons (r8.kt (c13.trans c14).kt) (.cons r10 .nil))))
        have e := encB_app b [.put (.num i) (.bin .add (.get (.num i)) (.num 1))]
        refine q _ _ (.whl (.bin .less (.get (.num i)) (.num j)) (b ++ [.put (.num i) (.bin .add (.get (.num i)) (.num 1))])) ((c1.trans c23).trans (c313.trans ((c14.trans c15).mono (by simp)))) (D10.ch (c11.trans (c12.trans (c13.trans (c14.trans c15)))) (by simp)) ?_
          ⟨⟨⟨by omega, by omega⟩, ⟨by omega, by omega⟩⟩, by simp [szP], wfBs_app wb (show wfBs nm.toNat ps (m + 1) [.put (.num i) (.bin .add (.get (.num i)) (.num 1))] from ⟨⟨⟨by omega, by omega⟩, ⟨⟨by omega, by omega⟩, by decide, by decide⟩, by simp [szP]⟩, trivial⟩)⟩
        simp only [encDd, encP, e]
        exact r11
end
end K3
end

section
set_option maxRecDepth 100000
set_option maxHeartbeats 1000000
open Bq L2
/-- one step of a reading; what is left are side goals and places to think -/
local macro_rules | `(tactic| walk_at "g1") => `(tactic| first
  | with_reducible refine' g_seq ?_ | with_reducible refine' g_asg ?_ | with_reducible refine' g_drop ?_ | with_reducible refine' g_ret ?_ | with_reducible refine' g_ifS ?_ | with_reducible refine' g_asgG ?_
  | ((with_reducible refine' g_var ?hv ?_); (case hv => rfl))
  | with_reducible refine' g_c ?_ | with_reducible refine' g_op ?_ | with_reducible refine' g_un ?_ | with_reducible refine' g_I0 ?_ | with_reducible refine' g_U ?_
  | with_reducible refine' g_test ?_ | with_reducible refine' g_tB ?_ | with_reducible refine Exists.intro _ (And.intro rfl ?_) 
  | ((with_reducible refine' g_andP ?ha ?hb ?_); (case ha => intro R q; walk_at "g"; exact q); (case hb => intro R q; walk_at "g"; exact q))
  | ((with_reducible refine' g_orP ?ha ?hb ?_); (case ha => intro R q; walk_at "g"; exact q); (case hb => intro R q; walk_at "g"; exact q))
  | with_reducible refine' g_and ?_ | with_reducible refine' g_or ?_ | with_reducible refine' g_not ?_
  | with_reducible refine' g_andV ?_ | with_reducible refine' g_orV ?_ | with_reducible refine' g_notV ?_ | with_reducible refine' g_if ?_ | with_reducible refine' g_nil ?_ | with_reducible refine' g_cons ?_
  | with_reducible refine' g_tup ?_ | with_reducible refine' g_lst ?_ | with_reducible refine' g_CB ?_ | with_reducible refine' g_Fn ?_ | with_reducible refine' g_next ?_ | with_reducible refine' g_retN ?_
  | with_reducible refine' g_name ?_ | with_reducible refine' g_sub ?_
  | ((with_reducible refine' g_ixL ?hs ?he ?_); (case hs => walk_at "lk"); (case he => walk_at "at"))
  | ((with_reducible refine' g_ixT ?hs ?he ?_); (case hs => walk_at "lk"); (case he => walk_at "at"))
  | ((with_reducible refine' g_setL ?hs ?he ?_); (case hs => walk_at "hp"); (case he => rfl))
  | ((with_reducible refine' g_app ?hs ?hz ?_); (case hs => walk_at "hp"); (case hz => walk_at "sz"))
  | ((with_reducible refine' ⟨_, _, rfl, Or.inl ?hs, ?_⟩); (case hs => walk_at "lk"))
  | ((with_reducible refine' ⟨_, _, rfl, Or.inr ?hs, ?_⟩); (case hs => walk_at "lk"))
  | with_reducible refine' g_BM ?_ | with_reducible refine' g_BM0 ?_ | ((with_reducible refine' g_tyL ?hs ?_); (case hs => walk_at "lk"))
  | with_reducible refine' g_sl ?_ | with_reducible refine' g_noPart ?_ | with_reducible refine' g_part ?_
  | ((with_reducible refine' g_inT ?hs ?fx ?fs ?_); (case hs => walk_at "lk"); (case fx => rfl); (case fs => rfl))
  | with_reducible refine' g_pair ?_ | with_reducible refine' g_pair0 ?_ | with_reducible refine' g_disp ?_
  | with_reducible refine' g_for ?_ | with_reducible refine' g_tupC ?_ | with_reducible refine' g_lstC ?_ | ((with_reducible refine' g_lens ?_)) | with_reducible refine' g_dg ?_ | with_reducible refine' g_lc ?_ | with_reducible refine' g_rng1 ?_ | with_reducible refine' g_ilist ?_ | with_reducible refine' g_itup ?_
  | ((with_reducible refine' ⟨_, _, rfl, ?hd, ?_⟩); (case hd => walk_at "dg"))
  | ((with_reducible refine' g_eqNil ?hs ?hz ?_); (case hs => walk_at "lk"); (case hz => walk_at "lk"))
  | ((with_reducible refine' g_neNil ?hs ?hz ?_); (case hs => walk_at "lk"); (case hz => walk_at "lk"))
  | with_reducible refine Or.inl ⟨_, rfl, ?_⟩
  | with_reducible refine Or.inr ⟨_, rfl, ?_⟩
  | ((with_reducible refine' g_eq ?hs ?_); (case hs => rfl))
  | ((with_reducible refine' g_ne ?hs ?_); (case hs => rfl))
  | ((with_reducible refine' g_I ?hc ?_); (case hc => walk_at "ar")))
/-- arithmetic's side conditions -/
local macro_rules | `(tactic| walk_at "ar") => `(tactic| (first
  | (show (0 : Int) < _; first | omega | decide) | (show (0 : Int) < _ ∧ _; constructor <;> omega) | (show ¬ (_ : Int) = _; omega) | (show (_ : Int) ≠ _ ∧ _; constructor <;> omega)
  | (show (-(2 ^ 64) < _ ∧ _) ∨ _; (first | (left; constructor <;> omega) | (right; constructor <;> omega))) | (show (0 : Int) ≤ _ ∧ _ ∧ _; refine ⟨by omega, by omega, by decide⟩)))
/-- what stands at an index -/
local macro_rules | `(tactic| walk_at "at") => `(tactic| first | rfl | assumption)
/-- what stands at an address -/
local macro_rules | `(tactic| walk_at "hp") => `(tactic| first | assumption | exact upd_same | ((refine' Eq.trans (upd_ne ?hn) ?hm); (case hm => walk_at "hp"); (case hn => walk_at "ne")))
/-- two places are two -/
local macro_rules | `(tactic| walk_at "ne") => `(tactic| first
  | assumption | exact Ne.symm (by assumption)
  | ((refine' ne_of_none ?ha ?hb); (case hb => assumption); (case ha => walk_at "hp")) | ((refine' Ne.symm (ne_of_none ?ha ?hb)); (case hb => assumption); (case ha => walk_at "hp")))
/-- what a dict tells -/
local macro_rules | `(tactic| walk_at "dg") => `(tactic| first | assumption)
/-- a length -/
local macro_rules | `(tactic| walk_at "sz") => `(tactic| first | (show _ ≤ sizeLine; decide) | (show _ < sizeLine; decide) | assumption | exact szlt (by simp) | exact szle (by simp))
/-- a list or tuple that stands -/
local macro_rules | `(tactic| walk_at "lk") => `(tactic| first | assumption | exact SqL.of (by assumption) | exact SqT.of (by assumption) | exact SqL.of upd_same | exact SqT.of upd_same | (refine' FzL.sq ?hm; (case hm => walk_at "fz")))
/-- a list that nobody writes -/
local macro_rules | `(tactic| walk_at "fz") => `(tactic| first | assumption | ((refine' FzL.uw ?hm ?hx); (case hx => walk_at "hp"); (case hm => walk_at "fz")) | ((refine' FzL.nw ?hm ?hx); (case hx => assumption); (case hm => walk_at "fz")))
/-- as far as it goes by itself -/
local macro_rules | `(tactic| walk_at "g") => `(tactic| repeat walk_at "g1")
/-- the body's reading, its places in short -/
local macro_rules | `(tactic| walk_at "go") => `(tactic| ((try dsimp only [cxOf, Cx.nox, Cx.wish]); walk_at "g"))
namespace K3
open PySem PySem.Spec PyProof.Rows L2 Bq
section
variable {P : Program} {w : World} {K : PySem.W.Frag} {mg : Str → Option Value} {base : Heap}
theorem body_step (C : Cn w K mg base) (k : Nat) (hk : 28 ≤ k) (dp : Nat) (hdp : dp ≤ 2) (F_law_deed : Fn P w K mg base CX0 k "_law_deed" ["_law_d", "_law_w", "_law_deep"] (spDeed K dp)) :
    Fn P w K mg base CX0 (k + 1) "_law_body" ["_law_d", "_law_w", "_law_deep"] (spBody K dp) := C.f_law_body fun fd F => by
  have F_law_next : Fn P w K mg base CX0 1 "_law_next" ["_law_dice_here", "_law_many"] (spNext K) := fn_next C
  refine F.ok (CX := CX0) sc_law_body (fun vs H Q E h => ?_) (fun cdv A outer s H vs Q E hr h => ?_)
  · obtain ⟨d, wa, nm, pl, ps, rfl, _⟩ := h
    rfl
  · obtain ⟨d, wa, nm, pl, ps, rfl, g, q⟩ := h
    have hu := hu_of (rmm (j := 1) hr)
    refine ⟨_, PSs.nox (pss_one (ps_ret (pe_callTy call_tuple_of (by rfl) (C.m_tuple) (by decide +kernel) (pa_cons (pe_lc (own := [("_law_k", 3)]) (g := gName 3) (tt := tYes) rfl sc_law_body.nd (pi_range1 (by rfl) (C.m_range) (pa_cons (pe_fn F_law_next (rmm hr) (by rfl) pass0 (pa_cons (pv 0) (pa_cons (pe_ix ix_list (pe_lstC (pa_cons pe_int (pa_cons pe_int pa_nil))) (pe_callTy call_int1 (by rfl) (C.m_int) (by decide +kernel) (pa_cons (pe_cmpR op_gt (pv 2) pe_int (nomark _)) pa_nil)) (fun _ _ => rfl)) pa_nil))) pa_nil)) (blkOk_by (own := [("_law_k", 3)]) (N := ["_law_d", "_law_w", "_law_deep", "_law_k"]) (sc := defScope s_law_body) (by decide +kernel)) (fun _ _ _ _ _ => pg_name (i := 3) sc_law_body.nd rfl (Or.inl rfl)) (fun _ _ _ _ _ => pts_nil) (fun _ _ _ _ _ => (pe_fn F_law_deed (rmm hr) (by rfl) pass0 (pa_cons (pv 0) (pa_cons (pv 1) (pa_cons (pv 2) pa_nil)))))) pa_nil)))), ?_⟩
    walk_at "go"
    refine ⟨szle (by simp), fun l H1 nl el c1 => ?_⟩
    walk_at "g"
    obtain ⟨x, hx, m, rfl, m0, m1⟩ := at_all (P := fun v => ∃ m : Int, v = .int m ∧ 3 ≤ m ∧ m ≤ 5) (xs := [V.int 3, V.int 5]) (n := if decide ((1 : Int) < (dp : Nat)) = true then 1 else 0) (by split <;> decide) (by split <;> decide) (by simp)
    walk_at "g"
    have D1 := g.dc.ch c1 (by simp)
    have g1 := g.ch (c1.mono (by simp)) D1
    refine ⟨d, m, rfl, D1, by omega, by omega, fun H2 n c2 D2 n0 n1 => ?_⟩
    have g2 := g1.ch c2 D2
    walk_at "g"
    refine ⟨by omega, by omega, fun D nD => ?_⟩
    have Dn : D ∉ [d] := by simpa using D2.ne nD
    refine lcR1 (fun i H' => Ch K [d] H2 H' ∧ Dice K H' d ∧ ∃ vs b, H' D = some (.lst vs) ∧ vs.length = i ∧ b.length = i ∧ Reps K H' vs (encB b) ∧ wfBs nm.toNat ps (dp + 1) b)
      ⟨Ch.new nD, D2.nw nD, [], [], upd_same, rfl, rfl, .nil, trivial⟩ ?_ ?_
    · rintro i H3 hi ⟨c3, D3, vs, b, eD, lv, lb, reps, wb⟩
      walk_at "g"
      refine ⟨d, wa, nm, pl, ps, rfl, g2.ch c3 D3, fun H4 v D' c4 D4 rep wf => ?_⟩
      have eD4 := c4.up _ _ eD Dn
      have c5 : Ch K [D] H4 (upd H4 D (.lst (vs ++ [v]))) := Ch.wrL eD4 (by simp)
      refine ⟨vs, eD4, Nat.lt_of_le_of_lt (show vs.length ≤ 5 by omega) (by decide), Ch.wrN (c3.trans c4) nD eD4 rfl, D4.ch c5 (by simpa using (D2.ne nD).symm), vs ++ [v], b ++ [D'], upd_same, by simp [lv], by simp [lb], ?_, wfBs_app wb ⟨wf, trivial⟩⟩
      rw [encB_app]
      exact ((reps.kt c4.kt).kt c5.kt).append (.cons (rep.kt c5.kt) .nil)
    · rintro H3 ⟨c3, D3, vs, b, eD, lv, lb, reps, wb⟩
      walk_at "g"
      refine ⟨D, vs, rfl, .inl ⟨SqL.of eD, fun l nl => ?_⟩⟩
      exact q _ _ b ((c1.mono (by simp)).trans (c2.trans (c3.trans (Ch.new nl)))) (D3.nw nl) (.tup (SqT.of upd_same) (reps.kt (Ch.new (S := []) nl).kt)) wb (by omega)
theorem trivFn {x : Str} {ps : List Str} {CX : CXT} {k : Nat} {f : Addr} {fd : FuncData} : FnOk P w K mg base CX k f fd ps (fun _ _ _ _ => False) := ⟨fun _ _ _ _ h => h.elim, fun _ _ _ _ _ _ _ _ _ _ _ _ _ h => h.elim⟩
theorem fn_deed0 (C : Cn w K mg base) : Fn P w K mg base CX0 29 "_law_deed" ["_law_d", "_law_w", "_law_deep"] (spDeed K 0) :=
  deed_step C 28 (Nat.le_refl _) 0 (spB := fun _ _ _ _ => False) (spW := fun _ _ _ _ => False) (C.f_law_body fun fd F => trivFn (x := "")) (C.f_law_while fun fd F => trivFn (x := "")) (fun m h => by omega) (fun h => by omega)
theorem fn_body (C : Cn w K mg base) : ∀ dp : Nat, dp ≤ 2 → Fn P w K mg base CX0 (30 + 3 * dp) "_law_body" ["_law_d", "_law_w", "_law_deep"] (spBody K dp)
  | 0, h => body_step C 29 (by decide) 0 h (fn_deed0 C)
  | dp + 1, h => by
    have B := fn_body C dp (by omega)
    have W := while_step C (30 + 3 * dp) (by omega) dp B
    have D := deed_step C (30 + 3 * dp + 1) (by omega) (dp + 1) (B.mono (by omega)) W (fun m e _ _ _ _ h => by
      have : m = dp := by omega
      rw [← this]
      exact h) (fun _ _ _ _ _ h => h)
    have e : 30 + 3 * (dp + 1) = 30 + 3 * dp + 1 + 1 + 1 := by omega
    rw [e]
    exact body_step C _ (by omega) (dp + 1) h D
end
end K3
end

section
set_option maxRecDepth 100000
set_option maxHeartbeats 1000000
open Bq L2
/-- one step of a reading; what is left are side goals and places to think -/
local macro_rules | `(tactic| walk_at "g1") => `(tactic| first
  | with_reducible refine' g_seq ?_ | with_reducible refine' g_asg ?_ | with_reducible refine' g_drop ?_ | with_reducible refine' g_ret ?_ | with_reducible refine' g_ifS ?_ | with_reducible refine' g_asgG ?_
  | ((with_reducible refine' g_var ?hv ?_); (case hv => rfl))
  | with_reducible refine' g_c ?_ | with_reducible refine' g_op ?_ | with_reducible refine' g_un ?_ | with_reducible refine' g_I0 ?_ | with_reducible refine' g_U ?_
  | with_reducible refine' g_test ?_ | with_reducible refine' g_tB ?_ | with_reducible refine Exists.intro _ (And.intro rfl ?_) 
  | ((with_reducible refine' g_andP ?ha ?hb ?_); (case ha => intro R q; walk_at "g"; exact q); (case hb => intro R q; walk_at "g"; exact q))
  | ((with_reducible refine' g_orP ?ha ?hb ?_); (case ha => intro R q; walk_at "g"; exact q); (case hb => intro R q; walk_at "g"; exact q))
  | with_reducible refine' g_and ?_ | with_reducible refine' g_or ?_ | with_reducible refine' g_not ?_
  | with_reducible refine' g_andV ?_ | with_reducible refine' g_orV ?_ | with_reducible refine' g_notV ?_ | with_reducible refine' g_if ?_ | with_reducible refine' g_nil ?_ | with_reducible refine' g_cons ?_
  | with_reducible refine' g_tup ?_ | with_reducible refine' g_lst ?_ | with_reducible refine' g_CB ?_ | with_reducible refine' g_Fn ?_ | with_reducible refine' g_next ?_ | with_reducible refine' g_retN ?_
  | with_reducible refine' g_name ?_ | with_reducible refine' g_sub ?_
  | ((with_reducible refine' g_ixL ?hs ?he ?_); (case hs => walk_at "lk"); (case he => walk_at "at"))
  | ((with_reducible refine' g_ixT ?hs ?he ?_); (case hs => walk_at "lk"); (case he => walk_at "at"))
  | ((with_reducible refine' g_setL ?hs ?he ?_); (case hs => walk_at "hp"); (case he => rfl))
  | ((with_reducible refine' g_app ?hs ?hz ?_); (case hs => walk_at "hp"); (case hz => walk_at "sz"))
  | ((with_reducible refine' ⟨_, _, rfl, Or.inl ?hs, ?_⟩); (case hs => walk_at "lk"))
  | ((with_reducible refine' ⟨_, _, rfl, Or.inr ?hs, ?_⟩); (case hs => walk_at "lk"))
  | with_reducible refine' g_BM ?_ | with_reducible refine' g_BM0 ?_ | ((with_reducible refine' g_tyL ?hs ?_); (case hs => walk_at "lk"))
  | with_reducible refine' g_sl ?_ | with_reducible refine' g_noPart ?_ | with_reducible refine' g_part ?_
  | ((with_reducible refine' g_inT ?hs ?fx ?fs ?_); (case hs => walk_at "lk"); (case fx => rfl); (case fs => rfl))
  | with_reducible refine' g_pair ?_ | with_reducible refine' g_pair0 ?_ | with_reducible refine' g_disp ?_
  | with_reducible refine' g_for ?_ | with_reducible refine' g_tupC ?_ | with_reducible refine' g_lstC ?_ | ((with_reducible refine' g_lens ?_)) | with_reducible refine' g_dg ?_ | with_reducible refine' g_lc ?_ | with_reducible refine' g_rng1 ?_ | with_reducible refine' g_ilist ?_ | with_reducible refine' g_itup ?_
  | ((with_reducible refine' ⟨_, _, rfl, ?hd, ?_⟩); (case hd => walk_at "dg"))
  | ((with_reducible refine' g_eqNil ?hs ?hz ?_); (case hs => walk_at "lk"); (case hz => walk_at "lk"))
  | ((with_reducible refine' g_neNil ?hs ?hz ?_); (case hs => walk_at "lk"); (case hz => walk_at "lk"))
  | with_reducible refine Or.inl ⟨_, rfl, ?_⟩
  | with_reducible refine Or.inr ⟨_, rfl, ?_⟩
  | ((with_reducible refine' g_eq ?hs ?_); (case hs => rfl))
  | ((with_reducible refine' g_ne ?hs ?_); (case hs => rfl))
  | ((with_reducible refine' g_I ?hc ?_); (case hc => walk_at "ar")))
/-- arithmetic's side conditions -/
local macro_rules | `(tactic| walk_at "ar") => `(tactic| (first
  | (show (0 : Int) < _; first | omega | decide) | (show (0 : Int) < _ ∧ _; constructor <;> omega) | (show ¬ (_ : Int) = _; omega) | (show (_ : Int) ≠ _ ∧ _; constructor <;> omega)
  | (show (-(2 ^ 64) < _ ∧ _) ∨ _; (first | (left; constructor <;> omega) | (right; constructor <;> omega))) | (show (0 : Int) ≤ _ ∧ _ ∧ _; refine ⟨by omega, by omega, by decide⟩)))
/-- what stands at an index -/
local macro_rules | `(tactic| walk_at "at") => `(tactic| first | rfl | assumption)
/-- what stands at an address -/
local macro_rules | `(tactic| walk_at "hp") => `(tactic| first | assumption | exact upd_same | ((refine' Eq.trans (upd_ne ?hn) ?hm); (case hm => walk_at "hp"); (case hn => walk_at "ne")))
/-- two places are two -/
local macro_rules | `(tactic| walk_at "ne") => `(tactic| first
  | assumption | exact Ne.symm (by assumption)
  | ((refine' ne_of_none ?ha ?hb); (case hb => assumption); (case ha => walk_at "hp")) | ((refine' Ne.symm (ne_of_none ?ha ?hb)); (case hb => assumption); (case ha => walk_at "hp")))
/-- what a dict tells -/
local macro_rules | `(tactic| walk_at "dg") => `(tactic| first | assumption)
/-- a length -/
local macro_rules | `(tactic| walk_at "sz") => `(tactic| first | (show _ ≤ sizeLine; decide) | (show _ < sizeLine; decide) | assumption | exact szlt (by simp) | exact szle (by simp))
/-- a list or tuple that stands -/
local macro_rules | `(tactic| walk_at "lk") => `(tactic| first | assumption | exact SqL.of (by assumption) | exact SqT.of (by assumption) | exact SqL.of upd_same | exact SqT.of upd_same | (refine' FzL.sq ?hm; (case hm => walk_at "fz")))
/-- a list that nobody writes -/
local macro_rules | `(tactic| walk_at "fz") => `(tactic| first | assumption | ((refine' FzL.uw ?hm ?hx); (case hx => walk_at "hp"); (case hm => walk_at "fz")) | ((refine' FzL.nw ?hm ?hx); (case hx => assumption); (case hm => walk_at "fz")))
/-- as far as it goes by itself -/
local macro_rules | `(tactic| walk_at "g") => `(tactic| repeat walk_at "g1")
/-- the body's reading, its places in short -/
local macro_rules | `(tactic| walk_at "go") => `(tactic| ((try dsimp only [cxOf, Cx.nox, Cx.wish]); walk_at "g"))
namespace K3
open PySem PySem.Spec PyProof.Rows L2 Bq
section
variable {P : Program} {w : World} {K : PySem.W.Frag} {mg : Str → Option Value} {base : Heap}
def spTower (K : PySem.W.Frag) : Sp := fun vs H Q _ => ∃ d v b nm ps, vs = [.ref d, v] ∧ Dice K H d ∧ Rep K H v (.tup (encB b)) ∧ wfBs nm ps 3 b ∧ b.length ≤ 20 ∧
  ∀ H' v' b', Ch K [d] H H' → Dice K H' d → Rep K H' v' (.tup (encB b')) → wfBs nm ps 8 b' → b'.length ≤ 20 → Q v' H'
theorem fn_tower (C : Cn w K mg base) : Fn P w K mg base CX0 2 "_law_tower" ["_law_d", "_law_body_here"] (spTower K) := C.f_law_tower fun fd F => by
  have F_law_next : Fn P w K mg base CX0 1 "_law_next" ["_law_dice_here", "_law_many"] (spNext K) := fn_next C
  refine F.ok (CX := CX0) sc_law_tower (fun vs H Q E h => ?_) (fun cdv A outer s H vs Q E hr h => ?_)
  · obtain ⟨d, v, b, nm, ps, rfl, _⟩ := h
    rfl
  · obtain ⟨d, v, b, nm, ps, rfl, hD, rb, wb, lb, q⟩ := h
    refine ⟨_, PSs.nox (pss_cons (ps_for PassesOwn.never rfl (pi_range1 (by rfl) (C.m_range) (pa_cons (pe_fn F_law_next (rmm hr) (by rfl) pass0 (pa_cons (pv 0) (pa_cons pe_int pa_nil))) pa_nil)) (pg_name (i := 2) sc_law_tower.nd rfl (Or.inl rfl)) (pss_cons (ps_set (i := 3) sc_law_tower.nd rfl (Or.inl rfl) (pe_tupC (pa_cons pe_str (pa_cons (pe_op op_add pe_int (pv 2)) pa_nil))))
      (pss_cons (ps_set (i := 4) sc_law_tower.nd rfl (Or.inl rfl) (pe_tupC (pa_cons pe_str (pa_cons (pv 3) (pa_cons (pe_tupC (pa_cons pe_str (pa_cons (pe_tupC (pa_cons pe_str (pa_cons (pv 3) pa_nil))) (pa_cons (pe_tupC (pa_cons pe_str (pa_cons pe_int pa_nil))) pa_nil)))) pa_nil)))))
      (pss_cons (ps_set (i := 5) sc_law_tower.nd rfl (Or.inl rfl) (pe_lstC (pa_cons (pe_tupC (pa_cons pe_str (pa_cons (pe_tupC (pa_cons pe_str (pa_cons pe_int pa_nil))) (pa_cons (pv 1) (pa_cons (pe_tupC pa_nil) pa_nil))))) (pa_cons (pe_tupC (pa_cons pe_str (pa_cons (pe_tupC (pa_cons pe_str (pa_cons pe_int pa_nil))) (pa_cons (pe_tupC pa_nil) (pa_cons (pv 1) pa_nil))))) pa_nil))))
      (pss_cons (ps_expr (pe_bm PySem.F.plainAttrs_list PySem.F.slot_list_append PySem.F.type_list_append mt_append (pv 5) (pa_cons (pe_tupC (pa_cons pe_str (pa_cons (pe_tupC (pa_cons pe_str (pa_cons (pe_tupC (pa_cons pe_str (pa_cons (pv 3) pa_nil))) (pa_cons (pe_tupC (pa_cons pe_str (pa_cons (pe_op op_add pe_int (pe_fn F_law_next (rmm hr) (by rfl) pass0 (pa_cons (pv 0) (pa_cons pe_int pa_nil)))) pa_nil))) pa_nil)))) (pa_cons (pe_op op_catR (pv 1) (pe_tupC (pa_cons (pv 4) pa_nil))) pa_nil)))) pa_nil)))
      (pss_one (ps_set (i := 1) sc_law_tower.nd rfl (Or.inl rfl) (pe_tupC (pa_cons (pe_ix ix_list (pv 5) (pe_fn F_law_next (rmm hr) (by rfl) pass0 (pa_cons (pv 0) (pa_cons pe_int pa_nil))) (fun _ _ => rfl)) pa_nil)))))))))
      (pss_one (ps_ret (pv 1)))), ?_⟩
    walk_at "go"
    refine ⟨d, 6, rfl, hD, by decide, by decide, fun H1 n c1 D1 n0 n1 => ?_⟩
    walk_at "g"
    refine ⟨by omega, by omega, ?_⟩
    refine for_rng (fun i σ H' => ∃ v b x2 x3 x4 x5, σ = [some (.ref d), some v, x2, x3, x4, x5] ∧ Ch K [d] H H' ∧ Dice K H' d ∧ Rep K H' v (.tup (encB b)) ∧ wfBs nm ps (3 + i) b ∧ b.length ≤ 20)
      ⟨v, b, none, none, none, none, rfl, c1, D1, rb.kt c1.kt, wb, lb⟩ ?_ ?_
    · clear rb wb lb v b c1 D1
      rintro i σ H2 hi ⟨v, b, x2, x3, x4, x5, rfl, c2, D2, rb, wb, lb⟩
      walk_at "g"
      refine ⟨szle (by simp), fun t1 H3 _ e1 k1 => ?_⟩
      have r1 : Rep K H3 (.ref t1) (encP (.num (50 + (i : Nat)))) := .tup (SqT.of e1) (.cons (.str _) (.cons (.int _) .nil))
      walk_at "g"
      refine ⟨szle (by simp), fun t2 H4 _ e2 k2 => ?_⟩
      have r2 : Rep K H4 (.ref t2) (encP (.get (.num (50 + (i : Nat))))) := .tup (SqT.of e2) (.cons (.str _) (.cons (r1.kt k2.kt) .nil))
      walk_at "g"
      refine ⟨szle (by simp), fun t3 H5 _ e3 k3 => ?_⟩
      have r3 : Rep K H5 (.ref t3) (encP (.num 1)) := .tup (SqT.of e3) (.cons (.str _) (.cons (.int _) .nil))
      walk_at "g"
      refine ⟨szle (by simp), fun t4 H6 _ e4 k4 => ?_⟩
      have r4 : Rep K H6 (.ref t4) (encP (.bin .add (.get (.num (50 + (i : Nat)))) (.num 1))) := .tup (SqT.of e4) (.cons (.str _) (.cons (r2.kt (k3.trans k4).kt) (.cons (r3.kt k4.kt) .nil)))
      walk_at "g"
      refine ⟨szle (by simp), fun t5 H7 _ e5 k5 => ?_⟩
      have r5 : Rep K H7 (.ref t5) (encDd (.put (.num (50 + (i : Nat))) (.bin .add (.get (.num (50 + (i : Nat)))) (.num 1)))) := .tup (SqT.of e5) (.cons (.str _) (.cons (r1.kt (k2.trans (k3.trans (k4.trans k5))).kt) (.cons (r4.kt k5.kt) .nil)))
      walk_at "g"
      refine ⟨szle (by simp), fun t6 H8 _ e6 k6 => ?_⟩
      have r6 : Rep K H8 (.ref t6) (encP (.num 1)) := .tup (SqT.of e6) (.cons (.str _) (.cons (.int _) .nil))
      walk_at "g"
      refine ⟨szle (by simp), fun t7 H9 _ e7 k7 => ?_⟩
      have r7 : Rep K H9 (.ref t7) (.tup (encB [])) := .tup (SqT.of e7) .nil
      walk_at "g"
      have c29 := k1.trans (k2.trans (k3.trans (k4.trans (k5.trans (k6.trans k7)))))
      refine ⟨szle (by simp), fun t8 H10 _ e8 k8 => ?_⟩
      have r8 : Rep K H10 (.ref t8) (encDd (.ite (.num 1) b [])) := .tup (SqT.of e8) (.cons (.str _) (.cons (r6.kt (k7.trans k8).kt) (.cons (rb.kt (c29.trans k8).kt) (.cons (r7.kt k8.kt) .nil))))
      walk_at "g"
      refine ⟨szle (by simp), fun t9 H11 _ e9 k9 => ?_⟩
      have r9 : Rep K H11 (.ref t9) (encP (.num 0)) := .tup (SqT.of e9) (.cons (.str _) (.cons (.int _) .nil))
      walk_at "g"
      refine ⟨szle (by simp), fun t10 H12 _ e10 k10 => ?_⟩
      have r10 : Rep K H12 (.ref t10) (.tup (encB [])) := .tup (SqT.of e10) .nil
      walk_at "g"
      refine ⟨szle (by simp), fun t11 H13 _ e11 k11 => ?_⟩
      have c213 := c29.trans (k8.trans (k9.trans (k10.trans k11)))
      have r11 : Rep K H13 (.ref t11) (encDd (.ite (.num 0) [] b)) := .tup (SqT.of e11) (.cons (.str _) (.cons (r9.kt (k10.trans k11).kt) (.cons (r10.kt k11.kt) (.cons (rb.kt c213.kt) .nil))))
      walk_at "g"
      refine ⟨szle (by simp), fun l H14 nl el k12 => ?_⟩
      have c214 := c213.trans k12
      have D14 := D2.ch c214 (by simp)
      have rd1 := r8.kt (k9.trans (k10.trans (k11.trans k12))).kt
      have rd2 := r11.kt k12.kt
      walk_at "g"
      refine ⟨szle (by simp), fun t15 H15 _ e15 k15 => ?_⟩
      have k115 : Kt K H3 H15 := k2.kt.trans (k3.kt.trans (k4.kt.trans (k5.kt.trans (k6.kt.trans (k7.kt.trans (k8.kt.trans (k9.kt.trans (k10.kt.trans (k11.kt.trans (k12.kt.trans k15.kt))))))))))
      have r15 : Rep K H15 (.ref t15) (encP (.get (.num (50 + (i : Nat))))) := .tup (SqT.of e15) (.cons (.str _) (.cons (r1.kt k115) .nil))
      have D15 := D14.ch k15 (by simp)
      walk_at "g"
      refine ⟨d, 2, rfl, D15, by decide, by decide, fun H16 j c16 D16 j0 j1 => ?_⟩
      have el15 := k15.up _ _ el (by simp)
      have ln : l ∉ [d] := by simpa using (D2.ch c213 (by simp)).ne nl
      have el16 := c16.up _ _ el15 ln
      walk_at "g"
      refine ⟨szle (by simp), fun t17 H17 _ e17 k17 => ?_⟩
      have r17 : Rep K H17 (.ref t17) (encP (.num (1 + j))) := .tup (SqT.of e17) (.cons (.str _) (.cons (.int _) .nil))
      walk_at "g"
      refine ⟨szle (by simp), fun t18 H18 _ e18 k18 => ?_⟩
      have r18 : Rep K H18 (.ref t18) (encP (.bin .less (.get (.num (50 + (i : Nat)))) (.num (1 + j)))) := .tup (SqT.of e18) (.cons (.str _) (.cons (r15.kt (c16.kt.trans (k17.trans k18).kt)) (.cons (r17.kt k18.kt) .nil)))
      walk_at "g"
      refine ⟨szle (by simp), fun t19 H19 _ e19 k19 => ?_⟩
      have k519 : Kt K H7 H19 := k6.kt.trans (k7.kt.trans (k8.kt.trans (k9.kt.trans (k10.kt.trans (k11.kt.trans (k12.kt.trans (k15.kt.trans (c16.kt.trans (k17.kt.trans (k18.kt.trans k19.kt))))))))))
      have r19 : Rep K H19 (.ref t19) (.tup (encB [.put (.num (50 + (i : Nat))) (.bin .add (.get (.num (50 + (i : Nat)))) (.num 1))])) := .tup (SqT.of e19) (.cons (r5.kt k519) .nil)
      walk_at "g"
      have c219 : Ch K [d] H2 H19 := ((c214.trans k15).mono (by simp)).trans (c16.trans ((k17.trans (k18.trans k19)).mono (by simp)))
      have lb2 : (encB b).length ≤ 20 := by rw [encB_len]; exact lb
      refine ⟨_, _, rb.kt c219.kt, r19, (by rw [encB_len [_]]; simp only [List.length_cons, List.length_nil]; omega), fun v20 H20 k20 r20 => ?_⟩
      rw [← encB_app] at r20
      walk_at "g"
      refine ⟨szle (by simp), fun t21 H21 _ e21 k21 => ?_⟩
      have r21 : Rep K H21 (.ref t21) (encDd (.whl (.bin .less (.get (.num (50 + (i : Nat)))) (.num (1 + j))) (b ++ [.put (.num (50 + (i : Nat))) (.bin .add (.get (.num (50 + (i : Nat)))) (.num 1))]))) :=
        .tup (SqT.of e21) (.cons (.str _) (.cons (r18.kt (k19.trans (k20.trans k21)).kt) (.cons (r20.kt k21.kt) .nil)))
      have el21 := (k17.trans (k18.trans (k19.trans (k20.trans k21)))).up _ _ el16 (by simp)
      walk_at "g"
      have c221 : Ch K [d] H2 H21 := c219.trans ((k20.trans k21).mono (by simp))
      have D21 : Dice K H21 d := D16.ch (k17.trans (k18.trans (k19.trans (k20.trans k21)))) (by simp)
      have hl0 : H l = none := (c2.trans (c213.mono (by simp))).free nl ln
      have cU : Ch K [d] H (upd H21 l (.lst ([V.ref t8, V.ref t11] ++ [V.ref t21]))) := Ch.wrN (c2.trans c221) hl0 el21 rfl
      have kU : Ch K [l] H21 (upd H21 l (.lst ([V.ref t8, V.ref t11] ++ [V.ref t21]))) := Ch.wrL el21 (by simp)
      have DU := D21.ch kU (by simpa using ((D2.ch c213 (by simp)).ne nl).symm)
      refine ⟨d, 3, rfl, DU, by decide, by decide, fun H22 j2 c22 D22 j20 j21 => ?_⟩
      have el22 := c22.up _ _ (upd_same (H := H21) (a := l)) ln
      have k22 := kU.kt.trans c22.kt
      have k1422 : Kt K H14 H22 := k15.kt.trans (c16.kt.trans (k17.kt.trans (k18.kt.trans (k19.kt.trans (k20.kt.trans (k21.kt.trans k22))))))
      obtain ⟨x, hx, D', rx, wx⟩ : ∃ x, atI [V.ref t8, V.ref t11, V.ref t21] j2 = some x ∧ ∃ D', Rep K H22 x (encDd D') ∧ wfD nm ps (3 + i) D' := by
        rcases (show j2 = 0 ∨ j2 = 1 ∨ j2 = 2 by omega) with rfl | rfl | rfl
        · exact ⟨_, rfl, _, rd1.kt k1422, ⟨by decide, by decide⟩, by simp [szP], wb, by unfold wfBs; trivial⟩
        · exact ⟨_, rfl, _, rd2.kt k1422, ⟨by decide, by decide⟩, by simp [szP], by unfold wfBs; trivial, wb⟩
        · refine ⟨_, rfl, _, r21.kt k22, ⟨⟨by omega, by omega⟩, ⟨by omega, by omega⟩⟩, by simp [szP], ?_⟩
          rw [show 3 + i = 2 + i + 1 by omega] at wb ⊢
          exact wfBs_app wb (show wfBs nm ps (2 + i + 1) [.put (.num (50 + (i : Nat))) (.bin .add (.get (.num (50 + (i : Nat)))) (.num 1))] from ⟨⟨⟨by omega, by omega⟩, ⟨⟨by omega, by omega⟩, by decide, by decide⟩, by simp [szP]⟩, trivial⟩)
      walk_at "g"
      refine ⟨szle (by simp), fun t23 H23 _ e23 k23 => ?_⟩
      exact ⟨_, [D'], _, _, _, _, rfl, cU.trans (c22.trans (k23.mono (by simp))), D22.ch k23 (by simp), .tup (SqT.of e23) (.cons (rx.kt k23.kt) .nil), (show wfBs nm ps (3 + i + 1) [D'] from ⟨wx, trivial⟩), by simp⟩
    · rintro σ H2 ⟨v, b, x2, x3, x4, x5, rfl, c2, D2, rb, wb, lb⟩
      walk_at "g"
      exact q _ _ b c2 D2 rb (wfBs_mono (by omega) wb) lb
end
end K3
end

section
set_option maxRecDepth 100000
set_option maxHeartbeats 1000000
open Bq L2
/-- one step of a reading; what is left are side goals and places to think -/
local macro_rules | `(tactic| walk_at "g1") => `(tactic| first
  | with_reducible refine' g_seq ?_ | with_reducible refine' g_asg ?_ | with_reducible refine' g_drop ?_ | with_reducible refine' g_ret ?_ | with_reducible refine' g_ifS ?_ | with_reducible refine' g_asgG ?_
  | ((with_reducible refine' g_var ?hv ?_); (case hv => rfl))
  | with_reducible refine' g_c ?_ | with_reducible refine' g_op ?_ | with_reducible refine' g_un ?_ | with_reducible refine' g_I0 ?_ | with_reducible refine' g_U ?_
  | with_reducible refine' g_test ?_ | with_reducible refine' g_tB ?_ | with_reducible refine Exists.intro _ (And.intro rfl ?_) 
  | ((with_reducible refine' g_andP ?ha ?hb ?_); (case ha => intro R q; walk_at "g"; exact q); (case hb => intro R q; walk_at "g"; exact q))
  | ((with_reducible refine' g_orP ?ha ?hb ?_); (case ha => intro R q; walk_at "g"; exact q); (case hb => intro R q; walk_at "g"; exact q))
  | with_reducible refine' g_and ?_ | with_reducible refine' g_or ?_ | with_reducible refine' g_not ?_
  | with_reducible refine' g_andV ?_ | with_reducible refine' g_orV ?_ | with_reducible refine' g_notV ?_ | with_reducible refine' g_if ?_ | with_reducible refine' g_nil ?_ | with_reducible refine' g_cons ?_
  | with_reducible refine' g_tup ?_ | with_reducible refine' g_lst ?_ | with_reducible refine' g_CB ?_ | with_reducible refine' g_Fn ?_ | with_reducible refine' g_next ?_ | with_reducible refine' g_retN ?_
  | with_reducible refine' g_name ?_ | with_reducible refine' g_sub ?_
  | ((with_reducible refine' g_ixL ?hs ?he ?_); (case hs => walk_at "lk"); (case he => walk_at "at"))
  | ((with_reducible refine' g_ixT ?hs ?he ?_); (case hs => walk_at "lk"); (case he => walk_at "at"))
  | ((with_reducible refine' g_setL ?hs ?he ?_); (case hs => walk_at "hp"); (case he => rfl))
  | ((with_reducible refine' g_app ?hs ?hz ?_); (case hs => walk_at "hp"); (case hz => walk_at "sz"))
  | ((with_reducible refine' ⟨_, _, rfl, Or.inl ?hs, ?_⟩); (case hs => walk_at "lk"))
  | ((with_reducible refine' ⟨_, _, rfl, Or.inr ?hs, ?_⟩); (case hs => walk_at "lk"))
  | with_reducible refine' g_BM ?_ | with_reducible refine' g_BM0 ?_ | ((with_reducible refine' g_tyL ?hs ?_); (case hs => walk_at "lk"))
  | with_reducible refine' g_sl ?_ | with_reducible refine' g_noPart ?_ | with_reducible refine' g_part ?_
  | ((with_reducible refine' g_inT ?hs ?fx ?fs ?_); (case hs => walk_at "lk"); (case fx => rfl); (case fs => rfl))
  | with_reducible refine' g_pair ?_ | with_reducible refine' g_pair0 ?_ | with_reducible refine' g_disp ?_
  | with_reducible refine' g_for ?_ | with_reducible refine' g_tupC ?_ | with_reducible refine' g_lstC ?_ | ((with_reducible refine' g_lens ?_)) | with_reducible refine' g_dg ?_ | with_reducible refine' g_lc ?_ | with_reducible refine' g_rng1 ?_ | with_reducible refine' g_ilist ?_ | with_reducible refine' g_itup ?_
  | ((with_reducible refine' ⟨_, _, rfl, ?hd, ?_⟩); (case hd => walk_at "dg"))
  | ((with_reducible refine' g_eqNil ?hs ?hz ?_); (case hs => walk_at "lk"); (case hz => walk_at "lk"))
  | ((with_reducible refine' g_neNil ?hs ?hz ?_); (case hs => walk_at "lk"); (case hz => walk_at "lk"))
  | with_reducible refine Or.inl ⟨_, rfl, ?_⟩
  | with_reducible refine Or.inr ⟨_, rfl, ?_⟩
  | ((with_reducible refine' g_eq ?hs ?_); (case hs => rfl))
  | ((with_reducible refine' g_ne ?hs ?_); (case hs => rfl))
  | ((with_reducible refine' g_I ?hc ?_); (case hc => walk_at "ar")))
/-- arithmetic's side conditions -/
local macro_rules | `(tactic| walk_at "ar") => `(tactic| (first
  | (show (0 : Int) < _; first | omega | decide) | (show (0 : Int) < _ ∧ _; constructor <;> omega) | (show ¬ (_ : Int) = _; omega) | (show (_ : Int) ≠ _ ∧ _; constructor <;> omega)
  | (show (-(2 ^ 64) < _ ∧ _) ∨ _; (first | (left; constructor <;> omega) | (right; constructor <;> omega))) | (show (0 : Int) ≤ _ ∧ _ ∧ _; refine ⟨by omega, by omega, by decide⟩)))
/-- what stands at an index -/
local macro_rules | `(tactic| walk_at "at") => `(tactic| first | rfl | assumption)
/-- what stands at an address -/
local macro_rules | `(tactic| walk_at "hp") => `(tactic| first | assumption | exact upd_same | ((refine' Eq.trans (upd_ne ?hn) ?hm); (case hm => walk_at "hp"); (case hn => walk_at "ne")))
/-- two places are two -/
local macro_rules | `(tactic| walk_at "ne") => `(tactic| first
  | assumption | exact Ne.symm (by assumption)
  | ((refine' ne_of_none ?ha ?hb); (case hb => assumption); (case ha => walk_at "hp")) | ((refine' Ne.symm (ne_of_none ?ha ?hb)); (case hb => assumption); (case ha => walk_at "hp")))
/-- what a dict tells -/
local macro_rules | `(tactic| walk_at "dg") => `(tactic| first | assumption)
/-- a length -/
local macro_rules | `(tactic| walk_at "sz") => `(tactic| first | (show _ ≤ sizeLine; decide) | (show _ < sizeLine; decide) | assumption | exact szlt (by simp) | exact szle (by simp))
/-- a list or tuple that stands -/
local macro_rules | `(tactic| walk_at "lk") => `(tactic| first | assumption | exact SqL.of (by assumption) | exact SqT.of (by assumption) | exact SqL.of upd_same | exact SqT.of upd_same | (refine' FzL.sq ?hm; (case hm => walk_at "fz")))
/-- a list that nobody writes -/
local macro_rules | `(tactic| walk_at "fz") => `(tactic| first | assumption | ((refine' FzL.uw ?hm ?hx); (case hx => walk_at "hp"); (case hm => walk_at "fz")) | ((refine' FzL.nw ?hm ?hx); (case hx => assumption); (case hm => walk_at "fz")))
/-- as far as it goes by itself -/
local macro_rules | `(tactic| walk_at "g") => `(tactic| repeat walk_at "g1")
/-- the body's reading, its places in short -/
local macro_rules | `(tactic| walk_at "go") => `(tactic| ((try dsimp only [cxOf, Cx.nox, Cx.wish]); walk_at "g"))
namespace K3
open PySem PySem.Spec PyProof.Rows L2 Bq
section
variable {P : Program} {w : World} {K : PySem.W.Frag} {mg : Str → Option Value} {base : Heap}
structure WfFu (ps : List Nat) (f : Fu) : Prop where
  p4 : f.ps ≤ 4
  pn : f.ps ≤ f.nm
  n8 : f.nm ≤ 8
  wb : wfBs f.nm ps 8 f.body
  sz : szB f.body ≤ 190
structure WfPr (fs : List Fu) : Prop where
  n1 : 1 ≤ fs.length
  n8 : fs.length ≤ 8
  f0 : ∀ f, fs[0]? = some f → f.ps = 0
  all : ∀ f ∈ fs, WfFu (fs.map Fu.ps) f
mutual
theorem wfP_ps {nm : Nat} {ps : List Nat} : ∀ {p : Pt}, wfP nm [] p → wfP nm ps p
  | .num _, q => q
  | .name _, q => q
  | .bin _ a b, q => ⟨wfP_ps q.1, wfP_ps q.2⟩
  | .nt a, q => wfP_ps (p := a) q
  | .get a, q => wfP_ps (p := a) q
  | .call f qs, q => by have := q.1; simp at this
end
mutual
theorem wfD_ps {nm : Nat} {ps : List Nat} : ∀ {n : Nat} {d : Dd}, wfD nm [] n d → wfD nm ps n d
  | _, .set _ _, h => ⟨h.1, wfP_ps h.2.1, h.2.2⟩
  | _, .put _ _, h => ⟨wfP_ps h.1, wfP_ps h.2.1, h.2.2⟩
  | _, .say _, h => ⟨wfP_ps h.1, h.2⟩
  | _, .ite _ _ _, h => ⟨wfP_ps h.1, h.2.1, wfBs_ps h.2.2.1, wfBs_ps h.2.2.2⟩
  | _, .whl _ _, h => ⟨wfP_ps h.1, h.2.1, wfBs_ps h.2.2⟩
  | _, .ret _, h => ⟨wfP_ps h.1, h.2⟩
  | _, .dop _, h => ⟨wfP_ps h.1, h.2⟩
theorem wfBs_ps {nm : Nat} {ps : List Nat} : ∀ {n : Nat} {b : List Dd}, wfBs nm [] n b → wfBs nm ps n b
  | _, [], _ => by unfold wfBs; trivial
  | 0, _ :: _, h => h.elim
  | n + 1, d :: r, h => ⟨wfD_ps h.1, wfBs_ps h.2⟩
end
def spProgram (K : PySem.W.Frag) : Sp := fun vs H Q _ => ∃ d, vs = [.ref d] ∧ Dice K H d ∧
  ∀ H' v fs, Ch K [d] H H' → Dice K H' d → Rep K H' v (.tup (fs.map encF)) → WfPr fs → Q v H'
theorem next_use {H : Hp} {Q : VK} {E : XK} {d : Addr} {m : Int} (D : Dice K H d) (m0 : 0 < m) (m1 : m < 1073741824)
    (k : ∀ H' n, Ch K [d] H H' → Dice K H' d → 0 ≤ n → n < m → Q (.int n) H') : spNext K [.ref d, .int m] H Q E := ⟨d, m, rfl, D, m0, m1, k⟩
theorem encB_take : ∀ (b : List Dd) (n : Nat), (encB b).take n = encB (b.take n)
  | _, 0 => rfl
  | [], _ + 1 => rfl
  | d :: r, n + 1 => congrArg (encDd d :: ·) (encB_take r n)
theorem wfBs_take {nm : Nat} {ps : List Nat} {m : Nat} : ∀ {b : List Dd} (n : Nat), wfBs nm ps m b → wfBs nm ps m (b.take n)
  | _, 0, _ => by unfold wfBs; trivial
  | [], _ + 1, h => h
  | d :: r, n + 1, h => by
    cases m with
    | zero => exact h.elim
    | succ m => exact ⟨h.1, wfBs_take n h.2⟩
theorem thT_tB (b : List Dd) : thT (.tup (encB b)) = szB b := by
  show ownT (encB b) + thTs (encB b) = _
  rw [ownT_B, thT_B, Nat.zero_add]
theorem fn_program (C : Cn w K mg base) : Fn P w K mg base CX0 98 "_law_program" ["_law_d"] (spProgram K) := C.f_law_program fun fd F => by
  have F_law_next : Fn P w K mg base CX0 1 "_law_next" ["_law_dice_here", "_law_many"] (spNext K) := fn_next C
  have F_law_body : Fn P w K mg base CX0 36 "_law_body" ["_law_d", "_law_w", "_law_deep"] (spBody K 2) := fn_body C 2 (by decide)
  have F_law_tower : Fn P w K mg base CX0 2 "_law_tower" ["_law_d", "_law_body_here"] (spTower K) := fn_tower C
  have F_law_things : Fn P w K mg base CX0 97 "_law_things" ["_law_thing"] (spThings K 96) := fn_things C 96
  refine F.ok (CX := CX0) sc_law_program (fun vs H Q E h => ?_) (fun cdv A outer s H vs Q E hr h => ?_)
  · obtain ⟨d, rfl, _⟩ := h
    rfl
  · obtain ⟨d, rfl, D, q⟩ := h
    have hu := hu_of (rmm (j := 1) hr)
    refine ⟨_, PSs.nox (pss_cons (ps_set (i := 1) sc_law_program.nd rfl (Or.inl rfl) (pe_op op_add pe_int (pe_fn F_law_next (rmm hr) (by rfl) pass0 (pa_cons (pv 0) (pa_cons (pe_ix ix_list (pe_lstC (pa_cons pe_int (pa_cons pe_int (pa_cons pe_int pa_nil)))) (pe_fn F_law_next (rmm hr) (by rfl) pass0 (pa_cons (pv 0) (pa_cons pe_int pa_nil))) (fun _ _ => rfl)) pa_nil)))))
      (pss_cons (ps_set (i := 3) sc_law_program.nd rfl (Or.inl rfl) (pe_op op_catL (pe_lstC (pa_cons pe_int pa_nil)) (pe_lc (own := [("_law_k", 2)]) (g := gName 2) (tt := tYes) rfl sc_law_program.nd (pi_range1 (by rfl) (C.m_range) (pa_cons (pe_op op_sub (pv 1) pe_int) pa_nil)) (blkOk_by (own := [("_law_k", 2)]) (N := ["_law_d", "_law_many", "_law_k", "_law_params", "_law_found", "_law_names", "_law_w", "_law_body_here"]) (sc := defScope s_law_program) (by decide +kernel)) (fun _ _ _ _ _ => pg_name (i := 2) sc_law_program.nd rfl (Or.inl rfl)) (fun _ _ _ _ _ => pts_nil) (fun _ _ _ _ _ => (pe_fn F_law_next (rmm hr) (by rfl) pass0 (pa_cons (pv 0) (pa_cons (pe_ix (ix_listK K) (pe_lstCK K (pa_cons pe_int (pa_cons pe_int pa_nil))) (pe_fn F_law_next (rmm hr) (by rfl) pass0 (pa_cons (pv 0) (pa_cons pe_int pa_nil))) (fun _ _ => rfl)) pa_nil)))))))
      (pss_cons (ps_set (i := 4) sc_law_program.nd rfl (Or.inl rfl) (pe_lstC pa_nil))
      (pss_cons (ps_for PassesOwn.never rfl (pi_range1 (by rfl) (C.m_range) (pa_cons (pv 1) pa_nil)) (pg_name (i := 2) sc_law_program.nd rfl (Or.inl rfl)) (pss_cons (ps_set (i := 5) sc_law_program.nd rfl (Or.inl rfl) (pe_callB (call_min2 rfl) (by rfl) (C.m_min) (by decide +kernel) (pa_cons pe_int (pa_cons (pe_op op_add (pe_ix ix_list (pv 3) (pv 2) (fun _ _ => rfl)) (pe_fn F_law_next (rmm hr) (by rfl) pass0 (pa_cons (pv 0) (pa_cons pe_int pa_nil)))) pa_nil))))
      (pss_cons (ps_set (i := 6) sc_law_program.nd rfl (Or.inl rfl) (pe_disp (pps_cons pe_str (pv 5) (pps_cons pe_str (pe_mid (pe_ifExp (pt_cmpR op_eq (pe_fn F_law_next (rmm hr) (by rfl) pass0 (pa_cons (pv 0) (pa_cons pe_int pa_nil))) pe_int (nomark _)) (pe_lstC pa_nil) (pv 3))) pps_nil)) (by rfl) (by rfl) (fun z => by cases z) (by decide)))
      (pss_cons (ps_set (i := 7) sc_law_program.nd rfl (Or.inl rfl) (pe_op op_catR (pe_fn F_law_body (rmm hr) (by rfl) pass0 (pa_cons (pv 0) (pa_cons (pv 6) (pa_cons pe_int pa_nil)))) (pe_slice sl_tupR (by exact (pe_callTy call_tuple_of (by rfl) (C.m_tuple) (by decide +kernel) (pa_cons (pe_lc (own := [("_law_k", 2)]) (g := gName 2) (tt := tYes) rfl sc_law_program.nd (pi_range1 (by rfl) (C.m_range) (pa_cons (pv 5) pa_nil)) (blkOk_by (own := [("_law_k", 2)]) (N := ["_law_d", "_law_many", "_law_k", "_law_params", "_law_found", "_law_names", "_law_w", "_law_body_here"]) (sc := defScope s_law_program) (by decide +kernel)) (fun _ _ _ _ _ => pg_name (i := 2) sc_law_program.nd rfl (Or.inl rfl)) (fun _ _ _ _ _ => pts_nil) (fun _ _ _ _ _ => (pe_tupCK K (pa_cons pe_str (pa_cons (pe_tupCK K (pa_cons pe_str (pa_cons (pv 2) pa_nil))) pa_nil))))) pa_nil))) po_none (po_some (pe_fn F_law_next (rmm hr) (by rfl) pass0 (pa_cons (pv 0) (pa_cons pe_int pa_nil)))))))
      (Evl.pss_cut (ps_if (pt_mid (PW.pt (pw_and (pt_cmpR op_eq (pe_fn F_law_next (rmm hr) (by rfl) pass0 (pa_cons (pv 0) (pa_cons pe_int pa_nil))) pe_int (nomark _)) (pw_and1 (pt_cmpR op_lt (pe_fn F_law_things (rmm hr) (by rfl) pass0 (pa_cons (pv 7) pa_nil)) pe_int (nomark _)))))) (pss_one (ps_set (i := 7) sc_law_program.nd rfl (Or.inl rfl) (pe_fn F_law_tower (rmm hr) (by rfl) pass0 (pa_cons (pv 0) (pa_cons (pv 7) pa_nil))))) pss_nil)
      (pss_cons (ps_while PassesOwn.never (pt_cmpR op_gt (pe_fn F_law_things (rmm hr) (by rfl) pass0 (pa_cons (pv 7) pa_nil)) pe_int (nomark _)) (pss_one (ps_set (i := 7) sc_law_program.nd rfl (Or.inl rfl) (pe_slice sl_tupR (pv 7) (po_some pe_int) po_none))))
      (pss_one (ps_expr (pe_bm PySem.F.plainAttrs_list PySem.F.slot_list_append PySem.F.type_list_append mt_append (pv 4) (pa_cons (pe_tupC (pa_cons (pe_ix ix_list (pv 3) (pv 2) (fun _ _ => rfl)) (pa_cons (pv 5) (pa_cons (pv 7) pa_nil)))) pa_nil))))))))))
      (pss_one (ps_ret (pe_callTy call_tuple_of (by rfl) (C.m_tuple) (by decide +kernel) (pa_cons (pv 4) pa_nil)))))))), ?_⟩
    walk_at "go"
    refine ⟨szle (by simp), fun l1 H1 n1 e1 c1 => ?_⟩
    have l1d : l1 ∉ [d] := by simpa using D.ne n1
    walk_at "g"
    refine next_use (D.ch c1 (by simp)) (by decide) (by decide) fun H2 i2 c2 D2 i20 i21 => ?_
    have e2 := c2.up _ _ e1 l1d
    obtain ⟨x, hx, m, rfl, m0, m1⟩ := at_all (P := fun v => ∃ m : Int, v = .int m ∧ 1 ≤ m ∧ m ≤ 8) (xs := [V.int 1, V.int 4, V.int 8]) (n := i2) i20 (by simpa using i21) (by simp)
    walk_at "g"
    refine next_use D2 (by omega) (by omega) fun H3 n c3 D3 n0 n3 => ?_
    have c13 : Ch K [d] H H3 := (c1.mono (by simp)).trans (c2.trans c3)
    walk_at "g"
    refine ⟨szle (by simp), fun p0 H4 np0 e4 c4 => ?_⟩
    have p0d : p0 ∉ [d] := by simpa using D3.ne np0
    have D4 := D3.ch c4 (by simp)
    walk_at "g"
    refine ⟨by omega, by omega, fun Dc nD => ?_⟩
    have Dn : Dc ∉ [d] := by simpa using D4.ne nD
    refine lcR1 (fun i H' => Ch K [d] H4 H' ∧ Dice K H' d ∧ ∃ ns : List Nat, H' Dc = some (.lst (ns.map fun n => V.int (n : Nat))) ∧ ns.length = i ∧ ∀ n ∈ ns, n ≤ 4)
      ⟨Ch.new nD, D4.nw nD, [], upd_same, rfl, by simp⟩ ?_ ?_
    · rintro i H5 hi ⟨c5, D5, ns, eD, ln, l4⟩
      walk_at "g"
      refine ⟨szle (by simp), fun l6 H6 n6 e6 c6 => ?_⟩
      have l6d : l6 ∉ [d] := by simpa using D5.ne n6
      walk_at "g"
      refine next_use (D5.ch c6 (by simp)) (by decide) (by decide) fun H7 i7 c7 D7 i70 i71 => ?_
      have e7 := c7.up _ _ e6 l6d
      obtain ⟨x, hx, m', rfl, m0', m1'⟩ := at_all (P := fun v => ∃ m : Int, v = .int m ∧ 3 ≤ m ∧ m ≤ 5) (xs := [V.int 3, V.int 5]) (n := i7) i70 (by simpa using i71) (by simp)
      walk_at "g"
      refine next_use D7 (by omega) (by omega) fun H8 n8 c8 D8 n80 n81 => ?_
      have c58 : Ch K [d] H5 H8 := (c6.mono (by simp)).trans (c7.trans c8)
      have eD8 := c58.up _ _ eD Dn
      have c9 : Ch K [Dc] H8 (upd H8 Dc (.lst ((ns.map fun n => V.int (n : Nat)) ++ [.int n8]))) := Ch.wrL eD8 (by simp)
      refine ⟨_, eD8, ?_, Ch.wrN (c5.trans c58) nD eD8 rfl, D8.ch c9 (by simpa using (D4.ne nD).symm), ns ++ [n8.toNat], ?_, by simp [ln], ?_⟩
      · exact Nat.lt_of_le_of_lt (show _ ≤ 10 by rw [List.length_map]; omega) (by decide)
      · rw [upd_same, List.map_append]
        have e8 : ((n8.toNat : Nat) : Int) = n8 := by omega
        simp only [List.map_cons, List.map_nil, e8]
      · intro k hk
        rw [List.mem_append] at hk
        rcases hk with hk | hk
        · exact l4 k hk
        · simp at hk
          omega
    rintro H5 ⟨c5, D5, ns, eD, ln, l4⟩
    have e5 := c5.up _ _ e4 p0d
    refine ⟨p0, Dc, _, _, rfl, rfl, e5, eD, Nat.le_trans (show _ ≤ 10 by simp only [List.length_cons, List.length_nil, List.length_map]; omega) (by decide), fun pl H6 npl epl c6 => ?_⟩
    have pld : pl ∉ [d] := by simpa using D5.ne npl
    have epl' : H6 pl = some (.lst ((0 :: ns).map fun n => V.int (n : Nat))) := epl
    obtain ⟨pps, hpps⟩ : ∃ pps, pps = 0 :: ns := ⟨_, rfl⟩
    have lpps : (pps.length : Int) = 1 + n := by rw [hpps, List.length_cons]; omega
    have p40 : ∀ n ∈ pps, n ≤ 4 := by
      rw [hpps]
      intro k hk
      rcases List.mem_cons.mp hk with rfl | hk
      · omega
      · exact l4 k hk
    have p00 : pps[0]? = some 0 := by rw [hpps]; rfl
    rw [← hpps] at epl'
    clear epl e5 eD l4
    have c16 : Ch K [d] H H6 := c13.trans ((c4.mono (by simp)).trans (c5.trans (c6.mono (by simp))))
    have D6 := D5.ch c6 (by simp)
    clear c13 c4 c5 c6 e4 D5 D4 D3 D2 c1 c2 c3 e1 e2
    walk_at "g"
    refine ⟨szle (by simp), fun fl H7 nfl efl c7 => ?_⟩
    have fld : fl ∉ [d] := by simpa using D6.ne nfl
    have plfl : pl ≠ fl := ne_of_none epl' nfl
    have fl0 : H fl = none := c16.free nfl fld
    walk_at "g"
    refine ⟨by omega, by omega, ?_⟩
    refine for_rng (fun i σ H' => ∃ x2 x5 x6 x7, σ = [some (.ref d), some (.int (1 + n)), x2, some (.ref pl), some (.ref fl), x5, x6, x7] ∧ Ch K [d] H H' ∧ Dice K H' d ∧
        H' pl = some (.lst (pps.map fun n => V.int (n : Nat))) ∧ ∃ vs fs, H' fl = some (.lst vs) ∧ vs.length = i ∧ Reps K H' vs (fs.map encF) ∧ fs.map Fu.ps = pps.take i ∧ ∀ f ∈ fs, WfFu pps f)
      ⟨none, none, none, none, rfl, c16.trans (c7.mono (by simp)), D6.ch c7 (by simp), c7.up _ _ epl' (by simp), [], [], efl, rfl, .nil, by simp, by simp⟩ ?_ ?_
    · clear hu efl c7 D6 epl' nfl
      rintro i σ H8 hi ⟨x2, x5, x6, x7, rfl, c8, D8, epl8, vs, fs, efl8, lvs, rvs, hfs, wfs⟩
      have hi' : i < pps.length := by omega
      have hget : pps[i]? = some pps[i] := List.getElem?_eq_getElem hi'
      have hp4 : pps[i] ≤ 4 := p40 _ (List.getElem_mem hi')
      have hat : atI (pps.map fun n => V.int (n : Nat)) ((i : Nat) : Int) = some (V.int (pps[i] : Nat)) := atI_nat (by rw [List.getElem?_map, hget]; rfl)
      walk_at "g"
      refine next_use D8 (by decide) (by decide) fun H9 j9 c9 D9 j90 j91 => ?_
      walk_at "g"
      refine ⟨8, _, rfl, ?_⟩
      walk_at "g"
      obtain ⟨nm, hnm, hnp, hn8⟩ : ∃ nm : Nat, (if (pps[i] : Int) + j9 < 8 then (pps[i] : Int) + j9 else 8) = (nm : Nat) ∧ pps[i] ≤ nm ∧ nm ≤ 8 := by
        refine ⟨min 8 (pps[i] + j9.toNat), ?_, by omega, by omega⟩
        split <;> omega
      rw [hnm]
      refine fun wa nwa => ?_
      have wad : wa ∉ [d] := by simpa using D9.ne nwa
      have kwa : Ch K [] H9 (upd H9 wa (.dK [])) := Ch.new nwa
      have Dwa := D9.ch kwa (by simp)
      have epl9 := c9.up _ _ epl8 pld
      have efl9 := c9.up _ _ efl8 fld
      have eplw := kwa.up _ _ epl9 (by simp)
      have nwl : pl ≠ wa := ne_of_none epl9 nwa
      walk_at "g"
      refine g_midE (fun v' H' => ∃ pa ps', Ch K [d] (upd H9 wa (.dK [])) H' ∧ v' = .ref pa ∧ Dice K H' d ∧ pa ≠ d ∧ pa ≠ wa ∧ H' pa = some (.lst (ps'.map fun n => V.int (n : Nat))) ∧ (ps' = [] ∨ ps' = pps)) ?_ ?_
      · walk_at "g"
        refine next_use Dwa (by decide) (by decide) fun H10 j10 c10 D10 _ _ => ?_
        walk_at "g"
        refine iteB (fun h => ?_) (fun h => ?_)
        · walk_at "g"
          refine ⟨szle (by simp), fun pa H11 npa epa c11 => ?_⟩
          exact ⟨pa, [], c10.trans (c11.mono (by simp)), rfl, D10.ch c11 (by simp), D10.ne npa, ne_of_none (c10.up _ _ upd_same wad) npa |>.symm, epa, .inl rfl⟩
        · walk_at "g"
          exact ⟨pl, pps, c10, rfl, D10, by simpa using pld, nwl, c10.up _ _ eplw pld, .inr rfl⟩
      · rintro v' H10 ⟨pa, ps', c10, rfl, D10, pad, paw, epa, hps⟩
        walk_at "g"
        have ewa := c10.up _ _ upd_same wad
        refine ⟨ewa, [(Sum.inr "names", .int nm), (Sum.inr "params", .ref pa)], rfl, by simp, ?_⟩
        have c11 : Ch K [d] H9 (upd H10 wa (.dK (mergeK [] [(Sum.inr "names", .int nm), (Sum.inr "params", .ref pa)]))) := Ch.wrN ((kwa.mono (by simp)).trans c10) nwa ewa rfl
        have c11' : Ch K [wa] H10 (upd H10 wa (.dK (mergeK [] [(Sum.inr "names", .int nm), (Sum.inr "params", .ref pa)]))) := Ch.wr ewa rfl (by simp)
        have hps4 : ∀ n ∈ ps', n ≤ 4 := by rcases hps with rfl | rfl <;> simp_all
        have hps8 : ps'.length ≤ 8 := by rcases hps with rfl | rfl <;> simp_all <;> omega
        have g : GW K (upd H10 wa (.dK (mergeK [] [(Sum.inr "names", .int nm), (Sum.inr "params", .ref pa)]))) d wa nm pa ps' :=
          ⟨D10.ch c11' (by simpa using (D9.ne nwa).symm), upd_same, c11'.up _ _ epa (by simpa using paw), pad, by omega, by omega, hps8, hps4⟩
        generalize upd H10 wa (.dK (mergeK [] [(Sum.inr "names", .int nm), (Sum.inr "params", .ref pa)])) = H11 at c11 c11' g ⊢
        clear epa ewa c10 c11' D10 Dwa kwa eplw
        walk_at "g"
        refine ⟨d, wa, nm, pa, ps', rfl, g, fun H12 v12 b12 c12 D12 r12 w12 l12 => ?_⟩
        have w12' : wfBs nm pps 3 b12 := by
          rcases hps with rfl | rfl
          · exact wfBs_ps w12
          · exact w12
        clear w12
        have epl12 := (c11.trans c12).up _ _ epl9 pld
        have efl12 := (c11.trans c12).up _ _ efl9 fld
        have k812 : Ch K [d] H8 H12 := c9.trans (c11.trans c12)
        have rvs12 := rvs.kt k812.kt
        clear epl9 efl9 rvs epl8 efl8 g
        walk_at "g"
        refine ⟨by omega, by omega, fun Dc nD => ?_⟩
        have Dn : Dc ∉ [d] := by simpa using D12.ne nD
        refine lcR1 (fun i H' => Ch K [] H12 H' ∧ ∃ vs b, H' Dc = some (.lst vs) ∧ vs.length = i ∧ b.length = i ∧ Reps K H' vs (encB b) ∧ wfBs nm pps 1 b)
          ⟨Ch.new nD, [], [], upd_same, rfl, rfl, .nil, by unfold wfBs; trivial⟩ ?_ ?_
        · rintro j H13 hj ⟨c13, us, b, eD, lu, lb, ru, wb⟩
          walk_at "g"
          refine ⟨szle (by simp), fun t1 H14 _ e14 k14 => ?_⟩
          have r1 : Rep K H14 (.ref t1) (encP (.name j)) := .tup (SqT.of e14) (.cons (.str _) (.cons (.int _) .nil))
          walk_at "g"
          refine ⟨szle (by simp), fun t2 H15 _ e15 k15 => ?_⟩
          have r2 : Rep K H15 (.ref t2) (encDd (.say (.name j))) := .tup (SqT.of e15) (.cons (.str _) (.cons (r1.kt k15.kt) .nil))
          have eD15 := (k14.trans k15).up _ _ eD (by simp)
          have c16 : Ch K [Dc] H15 (upd H15 Dc (.lst (us ++ [V.ref t2]))) := Ch.wrL eD15 (by simp)
          refine ⟨us, eD15, Nat.lt_of_le_of_lt (show us.length ≤ 10 by omega) (by decide), Ch.wrN (c13.trans (k14.trans k15)) nD eD15 rfl, us ++ [V.ref t2], b ++ [.say (.name j)], upd_same, by simp [lu], by simp [lb], ?_, wfBs_app wb (show wfBs nm pps 1 [.say (.name j)] from ⟨⟨show j < nm by omega, by simp [szP]⟩, by unfold wfBs; trivial⟩)⟩
          rw [encB_app]
          exact ((ru.kt (k14.trans k15).kt).kt c16.kt).append (.cons (r2.kt c16.kt) .nil)
        · rintro H13 ⟨c13, us, b13, eD, lu, lb, ru, wb⟩
          walk_at "g"
          refine ⟨Dc, us, rfl, .inl ⟨SqL.of eD, fun l14 n14 => ?_⟩⟩
          have c14 : Ch K [] H13 (upd H13 l14 (.tup us)) := Ch.new n14
          have r14 : Rep K (upd H13 l14 (.tup us)) (.ref l14) (.tup (encB b13)) := .tup (SqT.of upd_same) (ru.kt c14.kt)
          have k1214 := c13.trans c14
          generalize upd H13 l14 (.tup us) = H14 at c14 r14 k1214 ⊢
          walk_at "g"
          refine next_use (D12.ch k1214 (by simp)) (by decide) (by decide) fun H15 j15 c15 D15 j150 j151 => ?_
          walk_at "g"
          refine ⟨_, r14.kt c15.kt, fun v16 H16 k16 r16 => ?_⟩
          rw [cutT_to _ _ j150, encB_take] at r16
          walk_at "g"
          have c1216 : Ch K [d] H12 H16 := (k1214.mono (by simp)).trans (c15.trans (k16.mono (by simp)))
          have lt : (b13.take j15.toNat).length ≤ 2 := by rw [List.length_take]; omega
          refine ⟨_, _, r12.kt c1216.kt, r16, by rw [encB_len, encB_len]; omega, fun v17 H17 k17 r17 => ?_⟩
          rw [← encB_app] at r17
          have D17 := D15.ch (k16.trans k17) (by simp)
          have k817 : Ch K [d] H8 H17 := k812.trans (c1216.trans (k17.mono (by simp)))
          have wf17 : wfBs nm pps 3 (b12 ++ b13.take j15.toNat) := wfBs_app w12' (wfBs_mono (by decide) (wfBs_take _ wb))
          have l17 : (b12 ++ b13.take j15.toNat).length ≤ 20 := by rw [List.length_append]; omega
          have efl17 := (c1216.trans (k17.mono (by simp))).up _ _ efl12 fld
          have epl17 := (c1216.trans (k17.mono (by simp))).up _ _ epl12 pld
          have rvs17 := rvs12.kt (c1216.trans (k17.mono (S' := [d]) (by simp))).kt
          generalize b12 ++ b13.take j15.toNat = b17 at r17 wf17 l17
          clear r16 r14 r12 c13 c14 k1214 c15 k16 k17 c1216 eD ru wb epl12 efl12 rvs12 D15 D12 w12' c12
          walk_at "g"
          refine g_cut (Mid := fun σ' H' => ∃ v b, Ch K [d] H17 H' ∧ σ' = [some (.ref d), some (.int (1 + n)), some (.int (i : Nat)), some (.ref pl), some (.ref fl), some (.int nm), some (.ref wa), some v] ∧ Dice K H' d ∧ Rep K H' v (.tup (encB b)) ∧ wfBs nm pps 8 b ∧ b.length ≤ 20) ?_ ?_
          · walk_at "g"
            refine g_mid (fun _ H' => Ch K [d] H17 H' ∧ Dice K H' d) ?_ ?_
            · walk_at "g"
              refine next_use D17 (by decide) (by decide) fun H18 j18 c18 D18 _ _ => ?_
              walk_at "g"
              refine iteB (fun h => ?_) (fun h => ?_)
              · walk_at "g"
                have dd := dpT_B wf17
                refine ⟨v17, .tup (encB b17), rfl, r17.kt c18.kt, by simp only [dpT]; omega, fun H19 c19 => ?_⟩
                walk_at "g"
                exact ⟨c18.trans (c19.mono (by simp)), D18.ch c19 (by simp)⟩
              · exact ⟨c18, D18⟩
            · rintro tst H18 ⟨c18, D18⟩
              refine iteB (fun h => ?_) (fun h => ?_)
              · walk_at "g"
                refine ⟨d, v17, b17, nm, pps, rfl, D18, r17.kt c18.kt, wf17, l17, fun H19 v19 b19 c19 D19 r19 w19 l19 => ?_⟩
                walk_at "g"
                exact ⟨v19, b19, c18.trans c19, rfl, D19, r19, w19, l19⟩
              · walk_at "g"
                exact ⟨v17, b17, c18, rfl, D18, r17.kt c18.kt, wfBs_mono (by decide) wf17, l17⟩
          · rintro σ' H18 ⟨v18, b18, c18, rfl, D18, r18, w18, l18⟩
            walk_at "g"
            refine g_while ⟨fun m σ' H' => ∃ v b, m = b.length ∧ σ' = [some (.ref d), some (.int (1 + n)), some (.int (i : Nat)), some (.ref pl), some (.ref fl), some (.int nm), some (.ref wa), some v] ∧ Ch K [d] H17 H' ∧ Dice K H' d ∧ Rep K H' v (.tup (encB b)) ∧ wfBs nm pps 8 b ∧ b.length ≤ 20,
              ⟨_, v18, b18, rfl, rfl, c18, D18, r18, w18, l18⟩, ?_⟩
            clear w18 r18 l18 D18 c18
            rintro m σ' H18 ⟨v18, b18, rfl, rfl, c18, D18, r18, w18, l18⟩
            walk_at "g"
            have dd := dpT_B w18
            refine ⟨v18, .tup (encB b18), rfl, r18, by simp only [dpT]; omega, fun H19 c19 => ?_⟩
            rw [thT_tB]
            walk_at "g"
            refine iteB (fun h => ?_) (fun h => ?_)
            · have h1 := of_decide_eq_true h
              refine ⟨fun σ' H' => ∃ v b, b.length < b18.length ∧ σ' = [some (.ref d), some (.int (1 + n)), some (.int (i : Nat)), some (.ref pl), some (.ref fl), some (.int nm), some (.ref wa), some v] ∧ Ch K [d] H17 H' ∧ Dice K H' d ∧ Rep K H' v (.tup (encB b)) ∧ wfBs nm pps 8 b ∧ b.length ≤ 20,
                fun σ' H' ⟨v, b, lb, es, x⟩ => ⟨_, lb, v, b, rfl, es, x⟩, ?_⟩
              walk_at "g"
              refine ⟨_, r18.kt c19.kt, fun v20 H20 c20 r20 => ?_⟩
              rw [show (some (1 : Int)) = some ((1 : Nat) : Int) from rfl, cutT_from] at r20
              walk_at "g"
              cases b18 with
              | nil => simp [szB] at h1
              | cons d0 r0 => exact ⟨v20, r0, Nat.lt_succ_self _, rfl, c18.trans ((c19.trans c20).mono (by simp)), D18.ch (c19.trans c20) (by simp), r20, w18.2, by simp at l18; omega⟩
            · have h1 := of_decide_eq_false h
              have c819 := c18.trans (c19.mono (S' := [d]) (by simp))
              have efl19 := c819.up _ _ efl17 fld
              have epl19 := c819.up _ _ epl17 pld
              walk_at "g"
              refine ⟨szle (by simp), fun t20 H20 _ e20 c20 => ?_⟩
              have efl20 := c20.up _ _ efl19 (by simp)
              have hvs : vs.length < sizeLine := szlt (by omega)
              have dfl : d ∉ [fl] := by simp at fld ⊢; exact fun h => fld h.symm
              have r20 : Rep K H20 (.ref t20) (encF ⟨pps[i], nm, b18⟩) := .tup (SqT.of e20) (.cons (.int _) (.cons (.int _) (.cons (r18.kt (c19.trans c20).kt) .nil)))
              walk_at "g"
              have cU : Ch K [fl] H20 (upd H20 fl (.lst (vs ++ [V.ref t20]))) := Ch.wrL efl20 (by simp)
              have c17U : Ch K [d] H (upd H20 fl (.lst (vs ++ [V.ref t20]))) := Ch.wrN (c8.trans (k817.trans (c819.trans (c20.mono (by simp))))) fl0 efl20 rfl
              refine ⟨_, _, _, _, rfl, c17U, (D18.ch (c19.trans c20) (by simp)).ch cU dfl, cU.up _ _ (c20.up _ _ epl19 (by simp)) (by simpa using plfl), vs ++ [V.ref t20], fs ++ [⟨pps[i], nm, b18⟩], upd_same, by simp [lvs], ?_, ?_, ?_⟩
              · rw [List.map_append]
                exact ((rvs17.kt c819.kt).kt (c20.kt.trans cU.kt)).append (.cons (r20.kt cU.kt) .nil)
              · rw [List.map_append, hfs, List.take_succ, hget]
                rfl
              · intro f hf
                rcases List.mem_append.mp hf with hf | hf
                · exact wfs f hf
                · simp at hf
                  subst hf
                  exact ⟨hp4, hnp, hn8, w18, show szB b18 ≤ 190 by omega⟩
    · rintro σ H8 ⟨x2, x5, x6, x7, rfl, c8, D8, epl8, vs, fs, efl8, lvs, rvs, hfs, wfs⟩
      walk_at "g"
      refine ⟨fl, vs, rfl, .inl ⟨SqL.of efl8, fun l14 n14 => ?_⟩⟩
      have hfs' : fs.map Fu.ps = pps := by rw [hfs, List.take_of_length_le (by omega)]
      have hl : fs.length = pps.length := by rw [← hfs', List.length_map]
      refine q _ _ fs (c8.trans (Ch.new n14)) (D8.nw n14) (.tup (SqT.of upd_same) (rvs.kt (Ch.new (S := []) n14).kt)) ⟨by omega, by omega, fun f hf => ?_, fun f hf => ?_⟩
      · have h1 : (fs.map Fu.ps)[0]? = some f.ps := by rw [List.getElem?_map, hf]; rfl
        rw [hfs', p00] at h1
        exact (Option.some.inj h1).symm
      · rw [hfs']
        exact wfs f hf
end
end K3
end

section
set_option maxRecDepth 100000
set_option maxHeartbeats 1000000
open Bq L2
/-- one step of a reading; what is left are side goals and places to think -/
local macro_rules | `(tactic| walk_at "g1") => `(tactic| first
  | with_reducible refine' g_seq ?_ | with_reducible refine' g_asg ?_ | with_reducible refine' g_drop ?_ | with_reducible refine' g_ret ?_ | with_reducible refine' g_ifS ?_ | with_reducible refine' g_asgG ?_
  | ((with_reducible refine' g_var ?hv ?_); (case hv => rfl))
  | with_reducible refine' g_c ?_ | with_reducible refine' g_op ?_ | with_reducible refine' g_un ?_ | with_reducible refine' g_I0 ?_ | with_reducible refine' g_U ?_
  | with_reducible refine' g_test ?_ | with_reducible refine' g_tB ?_ | with_reducible refine Exists.intro _ (And.intro rfl ?_) 
  | ((with_reducible refine' g_andP ?ha ?hb ?_); (case ha => intro R q; walk_at "g"; exact q); (case hb => intro R q; walk_at "g"; exact q))
  | ((with_reducible refine' g_orP ?ha ?hb ?_); (case ha => intro R q; walk_at "g"; exact q); (case hb => intro R q; walk_at "g"; exact q))
  | with_reducible refine' g_and ?_ | with_reducible refine' g_or ?_ | with_reducible refine' g_not ?_
  | with_reducible refine' g_andV ?_ | with_reducible refine' g_orV ?_ | with_reducible refine' g_notV ?_ | with_reducible refine' g_if ?_ | with_reducible refine' g_nil ?_ | with_reducible refine' g_cons ?_
  | with_reducible refine' g_tup ?_ | with_reducible refine' g_lst ?_ | with_reducible refine' g_CB ?_ | with_reducible refine' g_Fn ?_ | with_reducible refine' g_next ?_ | with_reducible refine' g_retN ?_
  | with_reducible refine' g_name ?_ | with_reducible refine' g_sub ?_
  | ((with_reducible refine' g_ixL ?hs ?he ?_); (case hs => walk_at "lk"); (case he => walk_at "at"))
  | ((with_reducible refine' g_ixT ?hs ?he ?_); (case hs => walk_at "lk"); (case he => walk_at "at"))
  | ((with_reducible refine' g_setL ?hs ?he ?_); (case hs => walk_at "hp"); (case he => rfl))
  | ((with_reducible refine' g_app ?hs ?hz ?_); (case hs => walk_at "hp"); (case hz => walk_at "sz"))
  | ((with_reducible refine' ⟨_, _, rfl, Or.inl ?hs, ?_⟩); (case hs => walk_at "lk"))
  | ((with_reducible refine' ⟨_, _, rfl, Or.inr ?hs, ?_⟩); (case hs => walk_at "lk"))
  | with_reducible refine' g_BM ?_ | with_reducible refine' g_BM0 ?_ | ((with_reducible refine' g_tyL ?hs ?_); (case hs => walk_at "lk"))
  | with_reducible refine' g_sl ?_ | with_reducible refine' g_noPart ?_ | with_reducible refine' g_part ?_
  | ((with_reducible refine' g_inT ?hs ?fx ?fs ?_); (case hs => walk_at "lk"); (case fx => rfl); (case fs => rfl))
  | with_reducible refine' g_pair ?_ | with_reducible refine' g_pair0 ?_ | with_reducible refine' g_disp ?_
  | with_reducible refine' g_for ?_ | with_reducible refine' g_tupC ?_ | with_reducible refine' g_lstC ?_ | ((with_reducible refine' g_lens ?_)) | with_reducible refine' g_dg ?_ | with_reducible refine' g_lc ?_ | with_reducible refine' g_rng1 ?_ | with_reducible refine' g_ilist ?_ | with_reducible refine' g_itup ?_
  | ((with_reducible refine' ⟨_, _, rfl, ?hd, ?_⟩); (case hd => walk_at "dg"))
  | ((with_reducible refine' g_eqNil ?hs ?hz ?_); (case hs => walk_at "lk"); (case hz => walk_at "lk"))
  | ((with_reducible refine' g_neNil ?hs ?hz ?_); (case hs => walk_at "lk"); (case hz => walk_at "lk"))
  | with_reducible refine Or.inl ⟨_, rfl, ?_⟩
  | with_reducible refine Or.inr ⟨_, rfl, ?_⟩
  | ((with_reducible refine' g_eq ?hs ?_); (case hs => rfl))
  | ((with_reducible refine' g_ne ?hs ?_); (case hs => rfl))
  | ((with_reducible refine' g_I ?hc ?_); (case hc => walk_at "ar")))
/-- arithmetic's side conditions -/
local macro_rules | `(tactic| walk_at "ar") => `(tactic| (first
  | (show (0 : Int) < _; first | omega | decide) | (show (0 : Int) < _ ∧ _; constructor <;> omega) | (show ¬ (_ : Int) = _; omega) | (show (_ : Int) ≠ _ ∧ _; constructor <;> omega)
  | (show (-(2 ^ 64) < _ ∧ _) ∨ _; (first | (left; constructor <;> omega) | (right; constructor <;> omega))) | (show (0 : Int) ≤ _ ∧ _ ∧ _; refine ⟨by omega, by omega, by decide⟩)))
/-- what stands at an index -/
local macro_rules | `(tactic| walk_at "at") => `(tactic| first | rfl | assumption)
/-- what stands at an address -/
local macro_rules | `(tactic| walk_at "hp") => `(tactic| first | assumption | exact upd_same | ((refine' Eq.trans (upd_ne ?hn) ?hm); (case hm => walk_at "hp"); (case hn => walk_at "ne")))
/-- two places are two -/
local macro_rules | `(tactic| walk_at "ne") => `(tactic| first
  | assumption | exact Ne.symm (by assumption)
  | ((refine' ne_of_none ?ha ?hb); (case hb => assumption); (case ha => walk_at "hp")) | ((refine' Ne.symm (ne_of_none ?ha ?hb)); (case hb => assumption); (case ha => walk_at "hp")))
/-- what a dict tells -/
local macro_rules | `(tactic| walk_at "dg") => `(tactic| first | assumption)
/-- a length -/
local macro_rules | `(tactic| walk_at "sz") => `(tactic| first | (show _ ≤ sizeLine; decide) | (show _ < sizeLine; decide) | assumption | exact szlt (by simp) | exact szle (by simp))
/-- a list or tuple that stands -/
local macro_rules | `(tactic| walk_at "lk") => `(tactic| first | assumption | exact SqL.of (by assumption) | exact SqT.of (by assumption) | exact SqL.of upd_same | exact SqT.of upd_same | (refine' FzL.sq ?hm; (case hm => walk_at "fz")))
/-- a list that nobody writes -/
local macro_rules | `(tactic| walk_at "fz") => `(tactic| first | assumption | ((refine' FzL.uw ?hm ?hx); (case hx => walk_at "hp"); (case hm => walk_at "fz")) | ((refine' FzL.nw ?hm ?hx); (case hx => assumption); (case hm => walk_at "fz")))
/-- as far as it goes by itself -/
local macro_rules | `(tactic| walk_at "g") => `(tactic| repeat walk_at "g1")
/-- the body's reading, its places in short -/
local macro_rules | `(tactic| walk_at "go") => `(tactic| ((try dsimp only [cxOf, Cx.nox, Cx.wish]); walk_at "g"))
namespace K3
open PySem PySem.Spec PyProof.Rows L2 Bq
section
variable {P : Program} {w : World} {K : PySem.W.Frag} {mg : Str → Option Value} {base : Heap}
def spFuel (K : PySem.W.Frag) : Sp := fun vs H Q _ => ∃ d, vs = [.ref d] ∧ Dice K H d ∧
  ∀ H' n, Ch K [d] H H' → Dice K H' d → 0 ≤ n → n ≤ 3000 → Q (.int n) H'
theorem fn_fuel (C : Cn w K mg base) : Fn P w K mg base CX0 2 "_law_fuel" ["_law_d"] (spFuel K) := C.f_law_fuel fun fd F => by
  have F_law_next : Fn P w K mg base CX0 1 "_law_next" ["_law_dice_here", "_law_many"] (spNext K) := fn_next C
  refine F.ok (CX := CX0) sc_law_fuel (fun vs H Q E h => ?_) (fun cdv A outer s H vs Q E hr h => ?_)
  · obtain ⟨d, rfl, _⟩ := h
    rfl
  · obtain ⟨d, rfl, D, q⟩ := h
    refine ⟨_, PSs.nox (pss_one (ps_ret (pe_ix ix_list (pe_lstC (pa_cons (pe_fn F_law_next (rmm hr) (by rfl) pass0 (pa_cons (pv 0) (pa_cons pe_int pa_nil))) (pa_cons (pe_fn F_law_next (rmm hr) (by rfl) pass0 (pa_cons (pv 0) (pa_cons pe_int pa_nil))) (pa_cons pe_int pa_nil)))) (pe_fn F_law_next (rmm hr) (by rfl) pass0 (pa_cons (pv 0) (pa_cons pe_int pa_nil))) (fun _ _ => rfl)))), ?_⟩
    walk_at "go"
    refine next_use D (by decide) (by decide) fun H1 i1 c1 D1 i10 i11 => ?_
    walk_at "g"
    refine next_use D1 (by decide) (by decide) fun H2 i2 c2 D2 i20 i21 => ?_
    walk_at "g"
    refine ⟨szle (by simp), fun l1 H3 n1 e1 c3 => ?_⟩
    walk_at "g"
    refine next_use (D2.ch c3 (by simp)) (by decide) (by decide) fun H4 i4 c4 D4 i40 i41 => ?_
    have e2 := c4.up _ _ e1 (by simpa using D2.ne n1)
    obtain ⟨x, hx, m, rfl, m0, m1⟩ := at_all (P := fun v => ∃ m : Int, v = .int m ∧ 0 ≤ m ∧ m ≤ 3000) (xs := [V.int i1, V.int i2, V.int 3000]) (n := i4) i40 (by simpa using i41) (by
      intro v hv
      simp only [List.mem_cons, List.not_mem_nil, or_false] at hv
      rcases hv with rfl | rfl | rfl
      · exact ⟨_, rfl, i10, by omega⟩
      · exact ⟨_, rfl, i20, by omega⟩
      · exact ⟨_, rfl, by decide, by decide⟩)
    walk_at "g"
    exact q _ _ (c1.trans (c2.trans ((c3.mono (by simp)).trans c4))) D4 m0 m1
end
end K3
end

section
set_option maxRecDepth 100000
set_option maxHeartbeats 1000000
open Bq L2
/-- one step of a reading; what is left are side goals and places to think -/
local macro_rules | `(tactic| walk_at "g1") => `(tactic| first
  | with_reducible refine' g_seq ?_ | with_reducible refine' g_asg ?_ | with_reducible refine' g_drop ?_ | with_reducible refine' g_ret ?_ | with_reducible refine' g_ifS ?_ | with_reducible refine' g_asgG ?_
  | ((with_reducible refine' g_var ?hv ?_); (case hv => rfl))
  | with_reducible refine' g_c ?_ | with_reducible refine' g_op ?_ | with_reducible refine' g_un ?_ | with_reducible refine' g_I0 ?_ | with_reducible refine' g_U ?_
  | with_reducible refine' g_test ?_ | with_reducible refine' g_tB ?_ | with_reducible refine Exists.intro _ (And.intro rfl ?_) 
  | ((with_reducible refine' g_andP ?ha ?hb ?_); (case ha => intro R q; walk_at "g"; exact q); (case hb => intro R q; walk_at "g"; exact q))
  | ((with_reducible refine' g_orP ?ha ?hb ?_); (case ha => intro R q; walk_at "g"; exact q); (case hb => intro R q; walk_at "g"; exact q))
  | with_reducible refine' g_and ?_ | with_reducible refine' g_or ?_ | with_reducible refine' g_not ?_
  | with_reducible refine' g_andV ?_ | with_reducible refine' g_orV ?_ | with_reducible refine' g_notV ?_ | with_reducible refine' g_if ?_ | with_reducible refine' g_nil ?_ | with_reducible refine' g_cons ?_
  | with_reducible refine' g_tup ?_ | with_reducible refine' g_lst ?_ | with_reducible refine' g_CB ?_ | with_reducible refine' g_Fn ?_ | with_reducible refine' g_next ?_ | with_reducible refine' g_retN ?_
  | with_reducible refine' g_name ?_ | with_reducible refine' g_sub ?_
  | ((with_reducible refine' g_ixL ?hs ?he ?_); (case hs => walk_at "lk"); (case he => walk_at "at"))
  | ((with_reducible refine' g_ixT ?hs ?he ?_); (case hs => walk_at "lk"); (case he => walk_at "at"))
  | ((with_reducible refine' g_setL ?hs ?he ?_); (case hs => walk_at "hp"); (case he => rfl))
  | ((with_reducible refine' g_app ?hs ?hz ?_); (case hs => walk_at "hp"); (case hz => walk_at "sz"))
  | ((with_reducible refine' ⟨_, _, rfl, Or.inl ?hs, ?_⟩); (case hs => walk_at "lk"))
  | ((with_reducible refine' ⟨_, _, rfl, Or.inr ?hs, ?_⟩); (case hs => walk_at "lk"))
  | with_reducible refine' g_BM ?_ | with_reducible refine' g_BM0 ?_ | ((with_reducible refine' g_tyL ?hs ?_); (case hs => walk_at "lk"))
  | with_reducible refine' g_sl ?_ | with_reducible refine' g_noPart ?_ | with_reducible refine' g_part ?_
  | ((with_reducible refine' g_inT ?hs ?fx ?fs ?_); (case hs => walk_at "lk"); (case fx => rfl); (case fs => rfl))
  | with_reducible refine' g_pair ?_ | with_reducible refine' g_pair0 ?_ | with_reducible refine' g_disp ?_
  | with_reducible refine' g_for ?_ | with_reducible refine' g_tupC ?_ | with_reducible refine' g_lstC ?_ | ((with_reducible refine' g_lens ?_)) | with_reducible refine' g_dg ?_ | with_reducible refine' g_lc ?_ | with_reducible refine' g_rng1 ?_ | with_reducible refine' g_ilist ?_ | with_reducible refine' g_itup ?_
  | ((with_reducible refine' ⟨_, _, rfl, ?hd, ?_⟩); (case hd => walk_at "dg"))
  | ((with_reducible refine' g_eqNil ?hs ?hz ?_); (case hs => walk_at "lk"); (case hz => walk_at "lk"))
  | ((with_reducible refine' g_neNil ?hs ?hz ?_); (case hs => walk_at "lk"); (case hz => walk_at "lk"))
  | with_reducible refine Or.inl ⟨_, rfl, ?_⟩
  | with_reducible refine Or.inr ⟨_, rfl, ?_⟩
  | ((with_reducible refine' g_eq ?hs ?_); (case hs => rfl))
  | ((with_reducible refine' g_ne ?hs ?_); (case hs => rfl))
  | ((with_reducible refine' g_I ?hc ?_); (case hc => walk_at "ar")))
/-- arithmetic's side conditions -/
local macro_rules | `(tactic| walk_at "ar") => `(tactic| (first
  | (show (0 : Int) < _; first | omega | decide) | (show (0 : Int) < _ ∧ _; constructor <;> omega) | (show ¬ (_ : Int) = _; omega) | (show (_ : Int) ≠ _ ∧ _; constructor <;> omega)
  | (show (-(2 ^ 64) < _ ∧ _) ∨ _; (first | (left; constructor <;> omega) | (right; constructor <;> omega))) | (show (0 : Int) ≤ _ ∧ _ ∧ _; refine ⟨by omega, by omega, by decide⟩)))
/-- what stands at an index -/
local macro_rules | `(tactic| walk_at "at") => `(tactic| first | rfl | assumption)
/-- what stands at an address -/
local macro_rules | `(tactic| walk_at "hp") => `(tactic| first | assumption | exact upd_same | ((refine' Eq.trans (upd_ne ?hn) ?hm); (case hm => walk_at "hp"); (case hn => walk_at "ne")))
/-- two places are two -/
local macro_rules | `(tactic| walk_at "ne") => `(tactic| first
  | assumption | exact Ne.symm (by assumption)
  | ((refine' ne_of_none ?ha ?hb); (case hb => assumption); (case ha => walk_at "hp")) | ((refine' Ne.symm (ne_of_none ?ha ?hb)); (case hb => assumption); (case ha => walk_at "hp")))
/-- what a dict tells -/
local macro_rules | `(tactic| walk_at "dg") => `(tactic| first | assumption)
/-- a length -/
local macro_rules | `(tactic| walk_at "sz") => `(tactic| first | (show _ ≤ sizeLine; decide) | (show _ < sizeLine; decide) | assumption | exact szlt (by simp) | exact szle (by simp))
/-- a list or tuple that stands -/
local macro_rules | `(tactic| walk_at "lk") => `(tactic| first | assumption | exact SqL.of (by assumption) | exact SqT.of (by assumption) | exact SqL.of upd_same | exact SqT.of upd_same | (refine' FzL.sq ?hm; (case hm => walk_at "fz")))
/-- a list that nobody writes -/
local macro_rules | `(tactic| walk_at "fz") => `(tactic| first | assumption | ((refine' FzL.uw ?hm ?hx); (case hx => walk_at "hp"); (case hm => walk_at "fz")) | ((refine' FzL.nw ?hm ?hx); (case hx => assumption); (case hm => walk_at "fz")))
/-- as far as it goes by itself -/
local macro_rules | `(tactic| walk_at "g") => `(tactic| repeat walk_at "g1")
/-- the body's reading, its places in short -/
local macro_rules | `(tactic| walk_at "go") => `(tactic| ((try dsimp only [cxOf, Cx.nox, Cx.wish]); walk_at "g"))
namespace K3
open PySem PySem.Spec PyProof.Rows L2 Bq
section
variable {P : Program} {w : World} {K : PySem.W.Frag} {mg : Str → Option Value} {base : Heap}
/-! ### the law's own reckoning: numbers -/
def spRing : Sp := fun vs H Q _ => ∃ n : Int, vs = [.int n] ∧ Q (.int (ringI n)) H
theorem fn_ring (C : Cn w K mg base) : Fn P w K mg base CX0 1 "_law_ring" ["_law_number"] spRing := C.f_law_ring fun fd F => by
  refine F.ok (CX := CX0) sc_law_ring (fun vs H Q E h => ?_) (fun cdv A outer s H vs Q E hr h => ?_)
  · obtain ⟨n, rfl, _⟩ := h
    rfl
  · obtain ⟨n, rfl, q⟩ := h
    refine ⟨_, PSs.nox (pss_one (ps_ret (pe_op op_sub (pe_op op_mod (pe_op op_add (pv 0) (pe_op op_pow pe_int pe_int)) (pe_op op_mul pe_int (pe_op op_pow pe_int pe_int))) (pe_op op_pow pe_int pe_int)))), ?_⟩
    walk_at "go"
    exact q
def pairV (op : Op) (a b : Int) : V := match pairI op a b with
  | some v => .int v
  | none => .str "over"
def spPair (K : PySem.W.Frag) : Sp := fun vs H Q _ => ∃ op a b, vs = [.str (Op.str op), .int a, .int b] ∧ InR a ∧ InR b ∧ ∀ H', Ch K [] H H' → Q (pairV op a b) H'
theorem fn_pair (C : Cn w K mg base) : Fn P w K mg base CX0 2 "_law_pair" ["_law_word", "_law_one_here", "_law_other"] (spPair K) := C.f_law_pair fun fd F => by
  have F_law_ring : Fn P w K mg base CX0 1 "_law_ring" ["_law_number"] spRing := fn_ring C
  refine F.ok (CX := CX0) sc_law_pair (fun vs H Q E h => ?_) (fun cdv A outer s H vs Q E hr h => ?_)
  · obtain ⟨op, a, b, rfl, _⟩ := h
    rfl
  · obtain ⟨op, a, b, rfl, ha, hb, q⟩ := h
    have hu := hu_of (rmm (j := 1) hr)
    refine ⟨_, PSs.nox (pss_cons (ps_if (pt_mid (PW.pt (pw_and (pt_cmpR op_in_seq (pv 0) (pe_tupC (pa_cons pe_str (pa_cons pe_str pa_nil))) (by rfl)) (pw_and1 (pt_cmpR op_eq (pv 2) pe_int (nomark _)))))) (pss_one (ps_ret pe_str)) pss_nil)
      (pss_cons (ps_if (pt_cmpR op_eq (pv 0) pe_str (nomark _)) (pss_one (ps_ret (pe_op op_sub (pv 1) (pe_op op_mul (pv 2) (pe_op op_fdivN (pv 1) (pv 2)))))) pss_nil)
      (pss_cons (ps_if (pt_cmpR op_eq (pv 0) pe_str (nomark _)) (pss_one (ps_ret (pe_fn F_law_ring (rmm hr) (by rfl) pass0 (pa_cons (pe_op op_fdivN (pv 1) (pv 2)) pa_nil)))) pss_nil)
      (pss_cons (ps_if (pt_cmpR op_in_seq (pv 0) (pe_tupC (pa_cons pe_str (pa_cons pe_str pa_nil))) (by rfl)) (pss_one (ps_ret (pe_callTy call_int1 (by rfl) (C.m_int) (by decide +kernel) (pa_cons (pe_ix ix_list (pe_lstC (pa_cons (pe_cmpR op_eq (pv 1) (pv 2) (nomark _)) (pa_cons (pe_cmpR op_lt (pv 1) (pv 2) (nomark _)) pa_nil))) (pe_callTy call_int1 (by rfl) (C.m_int) (by decide +kernel) (pa_cons (pe_cmpR op_eq (pv 0) pe_str (nomark _)) pa_nil)) (fun _ _ => rfl)) pa_nil)))) pss_nil)
      (pss_one (ps_ret (pe_fn F_law_ring (rmm hr) (by rfl) pass0 (pa_cons (pe_dget hu (pe_disp (pps_cons pe_str (pe_op op_add (pv 1) (pv 2)) (pps_cons pe_str (pe_op op_sub (pv 1) (pv 2)) (pps_cons pe_str (pe_op op_mul (pv 1) (pv 2)) pps_nil))) (by rfl) (by rfl) (fun z => by cases z) (by decide)) (pv 0) (fun _ _ => rfl)) pa_nil)))))))), ?_⟩
    walk_at "go"
    refine g_mid (fun t H' => t = (inV (.str (Op.str op)) [.str "over", .str "rest"] && decide (b = 0)) ∧ Ch K [] H H') ?_ ?_
    · walk_at "g"
      refine ⟨szle (by simp), fun p H1 _ e1 c1 => ?_⟩
      walk_at "g"
      cases op <;> first
        | (refine tkF rfl ?_; exact ⟨rfl, c1⟩)
        | (refine tkT rfl ?_; walk_at "g"; refine ⟨?_, c1⟩; show _ = (true && _); simp)
    · rintro t H1 ⟨rfl, c1⟩
      have fin : ∀ {n : Int}, pairI op a b = some n → ∀ H', Ch K [] H H' → Q (.int n) H' := fun e H' c => by
        have := q H' c
        unfold pairV at this
        rw [e] at this
        exact this
      have hb' : b = 0 ∨ b ≠ 0 := Decidable.em _
      unfold InR at ha hb
      have dsp : ∀ {x : Int} {wd : Str} {H1 : Hp}, Ch K [] H H1 → pairI op a b = some (ringI x) → (wd = "add" ∧ x = a + b ∨ wd = "take" ∧ x = a - b ∨ wd = "times" ∧ x = a * b) → ∀ p, H1 p = none →
          DGet (upd (upd H1 p (.dK [])) p (.dK (mergeK [] [(Sum.inr "add", .int (a + b)), (Sum.inr "take", .int (a - b)), (Sum.inr "times", .int (a * b))]))) p (.str wd) (some (.int x)) := by
        intro x wd H1 c1 e hw p np
        rcases hw with ⟨rfl, rfl⟩ | ⟨rfl, rfl⟩ | ⟨rfl, rfl⟩
        · exact DGet.k (k := Sum.inr "add") upd_same
        · exact DGet.k (k := Sum.inr "take") upd_same
        · exact DGet.k (k := Sum.inr "times") upd_same
      have cD : ∀ {H1 : Hp} {p : Addr} {x : List (Key × V)}, Ch K [] H H1 → H1 p = none → Ch K [] H (upd (upd H1 p (.dK [])) p (.dK x)) := fun c np => c.trans ((Ch.new np).wrN np upd_same rfl)
      have km : CMul a b := .inl ⟨by omega, by omega⟩
      cases op with
      | add =>
        refine tkF rfl ?_
        walk_at "g"
        refine tkF rfl ?_
        walk_at "g"
        refine tkF rfl ?_
        walk_at "g"
        refine ⟨szle (by simp), fun p H2 _ e2 c2 => ?_⟩
        walk_at "g"
        refine tkF rfl ?_
        walk_at "g"
        refine fun p np => ?_
        walk_at "g"
        refine ⟨upd_same, [(Sum.inr "add", .int (a + b)), (Sum.inr "take", .int (a - b)), (Sum.inr "times", .int (a * b))], rfl, by simp, ?_⟩
        walk_at "g"
        refine ⟨_, _, rfl, dsp (c1.trans c2) rfl (.inl ⟨rfl, rfl⟩) p np, ?_⟩
        walk_at "g"
        exact ⟨_, rfl, fin rfl _ (cD (c1.trans c2) np)⟩
      | take =>
        refine tkF rfl ?_
        walk_at "g"
        refine tkF rfl ?_
        walk_at "g"
        refine tkF rfl ?_
        walk_at "g"
        refine ⟨szle (by simp), fun p H2 _ e2 c2 => ?_⟩
        walk_at "g"
        refine tkF rfl ?_
        walk_at "g"
        refine fun p np => ?_
        walk_at "g"
        refine ⟨upd_same, [(Sum.inr "add", .int (a + b)), (Sum.inr "take", .int (a - b)), (Sum.inr "times", .int (a * b))], rfl, by simp, ?_⟩
        walk_at "g"
        refine ⟨_, _, rfl, dsp (c1.trans c2) rfl (.inr (.inl ⟨rfl, rfl⟩)) p np, ?_⟩
        walk_at "g"
        exact ⟨_, rfl, fin rfl _ (cD (c1.trans c2) np)⟩
      | times =>
        refine tkF rfl ?_
        walk_at "g"
        refine tkF rfl ?_
        walk_at "g"
        refine tkF rfl ?_
        walk_at "g"
        refine ⟨szle (by simp), fun p H2 _ e2 c2 => ?_⟩
        walk_at "g"
        refine tkF rfl ?_
        walk_at "g"
        refine fun p np => ?_
        walk_at "g"
        refine ⟨upd_same, [(Sum.inr "add", .int (a + b)), (Sum.inr "take", .int (a - b)), (Sum.inr "times", .int (a * b))], rfl, by simp, ?_⟩
        walk_at "g"
        refine ⟨_, _, rfl, dsp (c1.trans c2) rfl (.inr (.inr ⟨rfl, rfl⟩)) p np, ?_⟩
        walk_at "g"
        exact ⟨_, rfl, fin rfl _ (cD (c1.trans c2) np)⟩
      | over =>
        rcases hb' with rfl | hb'
        · refine tkT rfl ?_
          walk_at "g"
          exact q _ c1
        · refine tkF (by rw [show inV _ _ = true from rfl]; simpa using hb') ?_
          walk_at "g"
          refine tkF rfl ?_
          walk_at "g"
          refine tkT rfl ?_
          have kd : CDivN a b := ⟨hb', by omega⟩
          walk_at "g"
          exact ⟨_, rfl, fin (by simp only [pairI, if_neg hb']) _ c1⟩
      | rest =>
        rcases hb' with rfl | hb'
        · refine tkT rfl ?_
          walk_at "g"
          exact q _ c1
        · refine tkF (by rw [show inV _ _ = true from rfl]; simpa using hb') ?_
          walk_at "g"
          refine tkT rfl ?_
          have kd : CDivN a b := ⟨hb', by omega⟩
          walk_at "g"
          have km2 : CMul b (a.fdiv b) := .inl ⟨by omega, by omega⟩
          walk_at "g"
          have e := Int.mul_fdiv_add_fmod a b
          rw [show a - b * a.fdiv b = a.fmod b by omega]
          exact fin (by simp only [pairI, if_neg hb']) _ c1
      | less =>
        refine tkF rfl ?_
        walk_at "g"
        refine tkF rfl ?_
        walk_at "g"
        refine tkF rfl ?_
        walk_at "g"
        refine ⟨szle (by simp), fun p H2 _ e2 c2 => ?_⟩
        walk_at "g"
        refine tkT rfl ?_
        walk_at "g"
        refine ⟨szle (by simp), fun p H3 _ e3 c3 => ?_⟩
        walk_at "g"
        exact fin (by simp [pairI]) _ (c1.trans (c2.trans c3))
      | same =>
        refine tkF rfl ?_
        walk_at "g"
        refine tkF rfl ?_
        walk_at "g"
        refine tkF rfl ?_
        walk_at "g"
        refine ⟨szle (by simp), fun p H2 _ e2 c2 => ?_⟩
        walk_at "g"
        refine tkT rfl ?_
        walk_at "g"
        refine ⟨szle (by simp), fun p H3 _ e3 c3 => ?_⟩
        walk_at "g"
        exact fin (by simp [pairI]) _ (c1.trans (c2.trans c3))
end
end K3
end

section
set_option maxRecDepth 100000
set_option maxHeartbeats 1000000
open Bq L2
/-- one step of a reading; what is left are side goals and places to think -/
local macro_rules | `(tactic| walk_at "g1") => `(tactic| first
  | with_reducible refine' g_seq ?_ | with_reducible refine' g_asg ?_ | with_reducible refine' g_drop ?_ | with_reducible refine' g_ret ?_ | with_reducible refine' g_ifS ?_ | with_reducible refine' g_asgG ?_
  | ((with_reducible refine' g_var ?hv ?_); (case hv => rfl))
  | with_reducible refine' g_c ?_ | with_reducible refine' g_op ?_ | with_reducible refine' g_un ?_ | with_reducible refine' g_I0 ?_ | with_reducible refine' g_U ?_
  | with_reducible refine' g_test ?_ | with_reducible refine' g_tB ?_ | with_reducible refine Exists.intro _ (And.intro rfl ?_) 
  | ((with_reducible refine' g_andP ?ha ?hb ?_); (case ha => intro R q; walk_at "g"; exact q); (case hb => intro R q; walk_at "g"; exact q))
  | ((with_reducible refine' g_orP ?ha ?hb ?_); (case ha => intro R q; walk_at "g"; exact q); (case hb => intro R q; walk_at "g"; exact q))
  | with_reducible refine' g_and ?_ | with_reducible refine' g_or ?_ | with_reducible refine' g_not ?_
  | with_reducible refine' g_andV ?_ | with_reducible refine' g_orV ?_ | with_reducible refine' g_notV ?_ | with_reducible refine' g_if ?_ | with_reducible refine' g_nil ?_ | with_reducible refine' g_cons ?_
  | with_reducible refine' g_tup ?_ | with_reducible refine' g_lst ?_ | with_reducible refine' g_CB ?_ | with_reducible refine' g_Fn ?_ | with_reducible refine' g_next ?_ | with_reducible refine' g_retN ?_
  | with_reducible refine' g_name ?_ | with_reducible refine' g_sub ?_
  | ((with_reducible refine' g_ixL ?hs ?he ?_); (case hs => walk_at "lk"); (case he => walk_at "at"))
  | ((with_reducible refine' g_ixT ?hs ?he ?_); (case hs => walk_at "lk"); (case he => walk_at "at"))
  | ((with_reducible refine' g_setL ?hs ?he ?_); (case hs => walk_at "hp"); (case he => rfl))
  | ((with_reducible refine' g_app ?hs ?hz ?_); (case hs => walk_at "hp"); (case hz => walk_at "sz"))
  | ((with_reducible refine' ⟨_, _, rfl, Or.inl ?hs, ?_⟩); (case hs => walk_at "lk"))
  | ((with_reducible refine' ⟨_, _, rfl, Or.inr ?hs, ?_⟩); (case hs => walk_at "lk"))
  | with_reducible refine' g_BM ?_ | with_reducible refine' g_BM0 ?_ | ((with_reducible refine' g_tyL ?hs ?_); (case hs => walk_at "lk"))
  | with_reducible refine' g_sl ?_ | with_reducible refine' g_noPart ?_ | with_reducible refine' g_part ?_
  | ((with_reducible refine' g_inT ?hs ?fx ?fs ?_); (case hs => walk_at "lk"); (case fx => rfl); (case fs => rfl))
  | with_reducible refine' g_pair ?_ | with_reducible refine' g_pair0 ?_ | with_reducible refine' g_disp ?_
  | with_reducible refine' g_for ?_ | with_reducible refine' g_tupC ?_ | with_reducible refine' g_lstC ?_ | ((with_reducible refine' g_lens ?_)) | with_reducible refine' g_dg ?_ | with_reducible refine' g_lc ?_ | with_reducible refine' g_rng1 ?_ | with_reducible refine' g_ilist ?_ | with_reducible refine' g_itup ?_
  | ((with_reducible refine' ⟨_, _, rfl, ?hd, ?_⟩); (case hd => walk_at "dg"))
  | ((with_reducible refine' g_eqNil ?hs ?hz ?_); (case hs => walk_at "lk"); (case hz => walk_at "lk"))
  | ((with_reducible refine' g_neNil ?hs ?hz ?_); (case hs => walk_at "lk"); (case hz => walk_at "lk"))
  | with_reducible refine Or.inl ⟨_, rfl, ?_⟩
  | with_reducible refine Or.inr ⟨_, rfl, ?_⟩
  | ((with_reducible refine' g_eq ?hs ?_); (case hs => rfl))
  | ((with_reducible refine' g_ne ?hs ?_); (case hs => rfl))
  | ((with_reducible refine' g_I ?hc ?_); (case hc => walk_at "ar")))
/-- arithmetic's side conditions -/
local macro_rules | `(tactic| walk_at "ar") => `(tactic| (first
  | (show (0 : Int) < _; first | omega | decide) | (show (0 : Int) < _ ∧ _; constructor <;> omega) | (show ¬ (_ : Int) = _; omega) | (show (_ : Int) ≠ _ ∧ _; constructor <;> omega)
  | (show (-(2 ^ 64) < _ ∧ _) ∨ _; (first | (left; constructor <;> omega) | (right; constructor <;> omega))) | (show (0 : Int) ≤ _ ∧ _ ∧ _; refine ⟨by omega, by omega, by decide⟩)))
/-- what stands at an index -/
local macro_rules | `(tactic| walk_at "at") => `(tactic| first | rfl | assumption)
/-- what stands at an address -/
local macro_rules | `(tactic| walk_at "hp") => `(tactic| first | assumption | exact upd_same | ((refine' Eq.trans (upd_ne ?hn) ?hm); (case hm => walk_at "hp"); (case hn => walk_at "ne")))
/-- two places are two -/
local macro_rules | `(tactic| walk_at "ne") => `(tactic| first
  | assumption | exact Ne.symm (by assumption)
  | ((refine' ne_of_none ?ha ?hb); (case hb => assumption); (case ha => walk_at "hp")) | ((refine' Ne.symm (ne_of_none ?ha ?hb)); (case hb => assumption); (case ha => walk_at "hp")))
/-- what a dict tells -/
local macro_rules | `(tactic| walk_at "dg") => `(tactic| first | assumption)
/-- a length -/
local macro_rules | `(tactic| walk_at "sz") => `(tactic| first | (show _ ≤ sizeLine; decide) | (show _ < sizeLine; decide) | assumption | exact szlt (by simp) | exact szle (by simp))
/-- a list or tuple that stands -/
local macro_rules | `(tactic| walk_at "lk") => `(tactic| first | assumption | exact SqL.of (by assumption) | exact SqT.of (by assumption) | exact SqL.of upd_same | exact SqT.of upd_same | (refine' FzL.sq ?hm; (case hm => walk_at "fz")))
/-- a list that nobody writes -/
local macro_rules | `(tactic| walk_at "fz") => `(tactic| first | assumption | ((refine' FzL.uw ?hm ?hx); (case hx => walk_at "hp"); (case hm => walk_at "fz")) | ((refine' FzL.nw ?hm ?hx); (case hx => assumption); (case hm => walk_at "fz")))
/-- as far as it goes by itself -/
local macro_rules | `(tactic| walk_at "g") => `(tactic| repeat walk_at "g1")
/-- the body's reading, its places in short -/
local macro_rules | `(tactic| walk_at "go") => `(tactic| ((try dsimp only [cxOf, Cx.nox, Cx.wish]); walk_at "g"))
namespace K3
open PySem PySem.Spec PyProof.Rows L2 Bq
section
variable {P : Program} {w : World} {K : PySem.W.Frag} {mg : Str → Option Value} {base : Heap}
/-! ### what stands within a thing -/
def encT : Th → T
  | .p p => encP p
  | .d d => encDd d
def wdT : Th → Str
  | .p (.num _) => "num"
  | .p (.name _) => "name"
  | .p (.bin op _ _) => op.str
  | .p (.nt _) => "not"
  | .p (.get _) => "get"
  | .p (.call _ _) => "call"
  | .d (.set _ _) => "set"
  | .d (.put _ _) => "put"
  | .d (.say _) => "say"
  | .d (.ite _ _ _) => "if"
  | .d (.whl _ _) => "while"
  | .d (.ret _) => "return"
  | .d (.dop _) => "do"
def restT : Th → List T
  | .p (.num n) => [.int n]
  | .p (.name i) => [.int i]
  | .p (.bin _ a b) => [encP a, encP b]
  | .p (.nt a) => [encP a]
  | .p (.get a) => [encP a]
  | .p (.call f ps) => [.int f, .tup (encPs ps)]
  | .d (.set i p) => [.int i, encP p]
  | .d (.put c p) => [encP c, encP p]
  | .d (.say p) => [encP p]
  | .d (.ite p a b) => [encP p, .tup (encB a), .tup (encB b)]
  | .d (.whl p b) => [encP p, .tup (encB b)]
  | .d (.ret p) => [encP p]
  | .d (.dop p) => [encP p]
theorem encT_eq (t : Th) : encT t = .tup (.str (wdT t) :: restT t) := by
  cases t with
  | p p => cases p <;> rfl
  | d d => cases d <;> rfl
def tabI : List (Key × V) := [(Sum.inr "set", .int 1), (Sum.inr "put", .int 2), (Sum.inr "say", .int 1), (Sum.inr "if", .int 1), (Sum.inr "while", .int 1), (Sum.inr "return", .int 1), (Sum.inr "do", .int 1), (Sum.inr "num", .int 0), (Sum.inr "name", .int 0), (Sum.inr "not", .int 1)]
def notCall : Th → Prop
  | .p (.call _ _) => False
  | _ => True
theorem wd_call {t : Th} (h : notCall t) : decide (V.str (wdT t) = V.str "call") = false := by
  cases t with
  | p p => cases p with
    | bin op a b => cases op <;> rfl
    | call f ps => exact h.elim
    | _ => rfl
  | d d => cases d <;> rfl
theorem inner_many {t : Th} (h : notCall t) : (valV (mergeK [] tabI) (Sum.inr (wdT t))).getD (if decide (V.str (wdT t) = V.str "get") = true then .int 1 else .int 2) = .int (innerT t).length := by
  cases t with
  | p p => cases p with
    | bin op a b => cases op <;> rfl
    | call f ps => exact h.elim
    | _ => rfl
  | d d => cases d <;> rfl
theorem inner_cut {t : Th} (h : notCall t) : (if decide (V.str (wdT t) = V.str "set") = true then cutT (.str (wdT t) :: restT t) (some 2) (some 3) else cutT (.str (wdT t) :: restT t) (some 1) (some (1 + (innerT t).length))) = encPs (innerT t) := by
  cases t with
  | p p => cases p with
    | bin op a b => cases op <;> rfl
    | call f ps => exact h.elim
    | _ => rfl
  | d d => cases d <;> rfl
theorem innerT_len {t : Th} (h : notCall t) : (encPs (innerT t)).length ≤ 10 := by
  cases t with
  | p p => cases p with
    | call f ps => exact h.elim
    | _ => simp [innerT, innerP, encPs]
  | d d => cases d <;> simp [innerT, innerD, encPs]
def spInner (K : PySem.W.Frag) : Sp := fun vs H Q _ => ∃ v t, vs = [v] ∧ Rep K H v (encT t) ∧ ∀ H' l us, Ch K [] H H' → H l = none → H' l = some (.lst us) → Reps K H' us (encPs (innerT t)) → Q (.ref l) H'
theorem fn_inner (C : Cn w K mg base) : Fn P w K mg base CX0 2 "_law_inner" ["_law_thing"] (spInner K) := C.f_law_inner fun fd F => by
  refine F.ok (CX := CX0) sc_law_inner (fun vs H Q E h => ?_) (fun cdv A outer s H vs Q E hr h => ?_)
  · obtain ⟨v, t, rfl, _⟩ := h
    rfl
  · obtain ⟨v, t, rfl, rep, q⟩ := h
    have hu := hu_of (rmm (j := 1) hr)
    refine ⟨_, PSs.nox (pss_cons (ps_if (pt_cmpR op_eq (pe_ix ix_tup (pv 0) pe_int (fun _ _ => rfl)) pe_str (nomark _)) (pss_one (ps_ret (pe_callTy call_list_of (by rfl) (C.m_list) (by decide +kernel) (pa_cons (pe_ix ix_tup (pv 0) pe_int (fun _ _ => rfl)) pa_nil)))) pss_nil)
      (pss_cons (ps_set (i := 1) sc_law_inner.nd rfl (Or.inl rfl) (pe_disp (pps_cons pe_str pe_int (pps_cons pe_str pe_int (pps_cons pe_str pe_int (pps_cons pe_str pe_int (pps_cons pe_str pe_int (pps_cons pe_str pe_int (pps_cons pe_str pe_int (pps_cons pe_str pe_int (pps_cons pe_str pe_int (pps_cons pe_str pe_int pps_nil)))))))))) (by rfl) (by rfl) (fun z => by cases z) (by decide)))
      (pss_cons (ps_set (i := 1) sc_law_inner.nd rfl (Or.inl rfl) (pe_dget2 hu (pv 1) (pe_ix ix_tup (pv 0) pe_int (fun _ _ => rfl)) (pe_ifExp (pt_cmpR op_eq (pe_ix ix_tup (pv 0) pe_int (fun _ _ => rfl)) pe_str (nomark _)) pe_int pe_int) ⟨by rfl, by rfl, by rfl, by rfl⟩))
      (pss_one (ps_ret (pe_ifExp (pt_cmpR op_eq (pe_ix ix_tup (pv 0) pe_int (fun _ _ => rfl)) pe_str (nomark _)) (pe_callTy call_list_of (by rfl) (C.m_list) (by decide +kernel) (pa_cons (pe_slice sl_tupR (pv 0) (po_some pe_int) (po_some pe_int)) pa_nil)) (pe_callTy call_list_of (by rfl) (C.m_list) (by decide +kernel) (pa_cons (pe_slice sl_tupR (pv 0) (po_some pe_int) (po_some (pe_op op_add pe_int (pv 1)))) pa_nil)))))))), ?_⟩
    have rep0 := rep
    rw [encT_eq] at rep
    obtain ⟨a, vs, rfl, hS, rs⟩ := rep.tupI
    obtain ⟨v0, vs1, rfl, r0, rs1⟩ := rs.consI
    obtain rfl := r0.strI
    have h0 : atI (V.str (wdT t) :: vs1) 0 = some (V.str (wdT t)) := atI_nat (j := 0) rfl
    walk_at "go"
    refine iteB (fun h => ?_) (fun h => ?_)
    · obtain ⟨f, ps, rfl⟩ : ∃ f ps, t = .p (.call f ps) := by
        cases t with
        | p p => cases p with
          | call f ps => exact ⟨f, ps, rfl⟩
          | _ => rw [wd_call (by trivial)] at h; cases h
        | d d => rw [wd_call (by trivial)] at h; cases h
      obtain ⟨v1, vs2, rfl, _, rs2⟩ := rs1.consI
      obtain ⟨v2, vs3, rfl, r2, _⟩ := rs2.consI
      obtain ⟨b, us, rfl, hb, rus⟩ := r2.tupI
      have h2 : atI (V.str (wdT (.p (.call f ps))) :: v1 :: V.ref b :: vs3) 2 = some (V.ref b) := atI_nat (j := 2) rfl
      walk_at "g"
      refine fun l nl => ?_
      exact q _ _ us (Ch.new nl) nl upd_same (rus.kt (Ch.new (S := []) nl).kt)
    · have hn : notCall t := by
        cases t with
        | p p => cases p with
          | call f ps => cases h
          | _ => trivial
        | d d => trivial
      walk_at "g"
      refine fun p np => ?_
      walk_at "g"
      refine ⟨upd_same, tabI, rfl, by simp [tabI], ?_⟩
      have c1 : Ch K [] H (upd (upd H p (.dK [])) p (.dK (mergeK [] tabI))) := (Ch.new np).wrN np upd_same rfl
      have e1 : (upd (upd H p (.dK [])) p (.dK (mergeK [] tabI))) p = some (.dK (mergeK [] tabI)) := upd_same
      generalize upd (upd H p (.dK [])) p (.dK (mergeK [] tabI)) = H1 at c1 e1 ⊢
      have hS1 := c1.sqT hS
      have rep1 := rep.kt c1.kt
      have lN := innerT_len hn
      have hcut := inner_cut hn
      have hmany := inner_many hn
      have fin : ∀ {v : V} {H2 : Hp}, Ch K [] H1 H2 → Rep K H2 v (.tup (encPs (innerT t))) → ∃ p ys, [v] = [V.ref p] ∧ (SqL K H2 p ys ∨ SqT K H2 p ys) ∧ ∀ l, H2 l = none → Q (.ref l) (upd H2 l (.lst ys)) := by
        intro v H2 c2 r2
        obtain ⟨b, us, rfl, hb, rus⟩ := r2.tupI
        exact ⟨b, us, rfl, .inr hb, fun l nl => q _ _ us ((c1.trans c2).trans (Ch.new nl)) ((c1.trans c2).free nl (by simp)) upd_same (rus.kt (Ch.new (S := []) nl).kt)⟩
      have fin2 : ∀ (σ : L2.St), σ[0]? = some (some (.ref a)) → σ[1]? = some (some (.int (innerT t).length)) → tIf (tTest (tOp rEq (tOp (rIxT K) (tVar 0) (tC (V.int 0))) (tC (V.str (Str.ofString "set")))))
              (tCB (fun xs H Q => ∃ p ys, xs = [V.ref p] ∧ (SqL K H p ys ∨ SqT K H p ys) ∧ ∀ (l : Addr), H l = none → Q (V.ref l) (upd H l (HO.lst ys))) (tCons (tSl (rSlR K) (tVar 0) (tPart (tC (V.int 2))) (tPart (tC (V.int 3)))) tNil))
              (tCB (fun xs H Q => ∃ p ys, xs = [V.ref p] ∧ (SqL K H p ys ∨ SqT K H p ys) ∧ ∀ (l : Addr), H l = none → Q (V.ref l) (upd H l (HO.lst ys))) (tCons (tSl (rSlR K) (tVar 0) (tPart (tC (V.int 1))) (tPart (tOp (rI0 fun i j => V.int (i + j)) (tC (V.int 1)) (tVar 1)))) tNil)) σ H1 Q := by
        intro σ e0 e1
        have h0' := h0
        refine g_if (g_test (g_op (g_op (g_var e0 (g_c (g_ixT hS1 h0 (g_c (g_eq rfl ?_))))))))
        refine ⟨_, rfl, iteB (fun h => ?_) (fun h => ?_)⟩
        · rw [if_pos h] at hcut
          refine g_CB (g_cons (g_sl (g_var e0 (g_part (g_c ⟨_, rfl, g_part (g_c ⟨_, rfl, ⟨_, rep1, fun v H2 c2 r2 => ?_⟩⟩)⟩)))))
          rw [hcut] at r2
          exact g_nil (fin c2 r2)
        · rw [if_neg (by rw [h]; exact Bool.false_ne_true)] at hcut
          refine g_CB (g_cons (g_sl (g_var e0 (g_part (g_c ⟨_, rfl, g_part (g_op (g_c (g_var e1 (g_I0 ⟨_, rfl, ⟨_, rep1, fun v H2 c2 r2 => ?_⟩⟩))))⟩)))))
          rw [hcut] at r2
          exact g_nil (fin c2 r2)
      walk_at "g"
      refine g_dget2 ?_
      walk_at "g"
      refine ⟨.inl ⟨_, .inl e1⟩, ?_⟩
      walk_at "g"
      refine iteB (fun h1 => ?_) (fun h1 => ?_)
      · rw [if_pos h1] at hmany
        walk_at "g"
        refine ⟨_, DGet.k (k := Sum.inr (wdT t)) e1, ?_⟩
        rw [hmany]
        exact fin2 _ rfl rfl
      · rw [if_neg (by rw [h1]; exact Bool.false_ne_true)] at hmany
        walk_at "g"
        refine ⟨_, DGet.k (k := Sum.inr (wdT t)) e1, ?_⟩
        rw [hmany]
        exact fin2 _ rfl rfl
end
end K3
end

section
set_option maxRecDepth 100000
set_option maxHeartbeats 1000000
open Bq L2
/-- one step of a reading; what is left are side goals and places to think -/
local macro_rules | `(tactic| walk_at "g1") => `(tactic| first
  | with_reducible refine' g_seq ?_ | with_reducible refine' g_asg ?_ | with_reducible refine' g_drop ?_ | with_reducible refine' g_ret ?_ | with_reducible refine' g_ifS ?_ | with_reducible refine' g_asgG ?_
  | ((with_reducible refine' g_var ?hv ?_); (case hv => rfl))
  | with_reducible refine' g_c ?_ | with_reducible refine' g_op ?_ | with_reducible refine' g_un ?_ | with_reducible refine' g_I0 ?_ | with_reducible refine' g_U ?_
  | with_reducible refine' g_test ?_ | with_reducible refine' g_tB ?_ | with_reducible refine Exists.intro _ (And.intro rfl ?_) 
  | ((with_reducible refine' g_andP ?ha ?hb ?_); (case ha => intro R q; walk_at "g"; exact q); (case hb => intro R q; walk_at "g"; exact q))
  | ((with_reducible refine' g_orP ?ha ?hb ?_); (case ha => intro R q; walk_at "g"; exact q); (case hb => intro R q; walk_at "g"; exact q))
  | with_reducible refine' g_and ?_ | with_reducible refine' g_or ?_ | with_reducible refine' g_not ?_
  | with_reducible refine' g_andV ?_ | with_reducible refine' g_orV ?_ | with_reducible refine' g_notV ?_ | with_reducible refine' g_if ?_ | with_reducible refine' g_nil ?_ | with_reducible refine' g_cons ?_
  | with_reducible refine' g_tup ?_ | with_reducible refine' g_lst ?_ | with_reducible refine' g_CB ?_ | with_reducible refine' g_Fn ?_ | with_reducible refine' g_next ?_ | with_reducible refine' g_retN ?_
  | with_reducible refine' g_name ?_ | with_reducible refine' g_sub ?_
  | ((with_reducible refine' g_ixL ?hs ?he ?_); (case hs => walk_at "lk"); (case he => walk_at "at"))
  | ((with_reducible refine' g_ixT ?hs ?he ?_); (case hs => walk_at "lk"); (case he => walk_at "at"))
  | ((with_reducible refine' g_setL ?hs ?he ?_); (case hs => walk_at "hp"); (case he => rfl))
  | ((with_reducible refine' g_app ?hs ?hz ?_); (case hs => walk_at "hp"); (case hz => walk_at "sz"))
  | ((with_reducible refine' ⟨_, _, rfl, Or.inl ?hs, ?_⟩); (case hs => walk_at "lk"))
  | ((with_reducible refine' ⟨_, _, rfl, Or.inr ?hs, ?_⟩); (case hs => walk_at "lk"))
  | with_reducible refine' g_BM ?_ | with_reducible refine' g_BM0 ?_ | ((with_reducible refine' g_tyL ?hs ?_); (case hs => walk_at "lk"))
  | with_reducible refine' g_sl ?_ | with_reducible refine' g_noPart ?_ | with_reducible refine' g_part ?_
  | ((with_reducible refine' g_inT ?hs ?fx ?fs ?_); (case hs => walk_at "lk"); (case fx => rfl); (case fs => rfl))
  | with_reducible refine' g_pair ?_ | with_reducible refine' g_pair0 ?_ | with_reducible refine' g_disp ?_
  | with_reducible refine' g_for ?_ | with_reducible refine' g_tupC ?_ | with_reducible refine' g_lstC ?_ | ((with_reducible refine' g_lens ?_)) | with_reducible refine' g_dg ?_ | with_reducible refine' g_lc ?_ | with_reducible refine' g_rng1 ?_ | with_reducible refine' g_ilist ?_ | with_reducible refine' g_itup ?_
  | ((with_reducible refine' ⟨_, _, rfl, ?hd, ?_⟩); (case hd => walk_at "dg"))
  | ((with_reducible refine' g_eqNil ?hs ?hz ?_); (case hs => walk_at "lk"); (case hz => walk_at "lk"))
  | ((with_reducible refine' g_neNil ?hs ?hz ?_); (case hs => walk_at "lk"); (case hz => walk_at "lk"))
  | with_reducible refine Or.inl ⟨_, rfl, ?_⟩
  | with_reducible refine Or.inr ⟨_, rfl, ?_⟩
  | ((with_reducible refine' g_eq ?hs ?_); (case hs => rfl))
  | ((with_reducible refine' g_ne ?hs ?_); (case hs => rfl))
  | ((with_reducible refine' g_I ?hc ?_); (case hc => walk_at "ar")))
/-- arithmetic's side conditions -/
local macro_rules | `(tactic| walk_at "ar") => `(tactic| (first
  | (show (0 : Int) < _; first | omega | decide) | (show (0 : Int) < _ ∧ _; constructor <;> omega) | (show ¬ (_ : Int) = _; omega) | (show (_ : Int) ≠ _ ∧ _; constructor <;> omega)
  | (show (-(2 ^ 64) < _ ∧ _) ∨ _; (first | (left; constructor <;> omega) | (right; constructor <;> omega))) | (show (0 : Int) ≤ _ ∧ _ ∧ _; refine ⟨by omega, by omega, by decide⟩)))
/-- what stands at an index -/
local macro_rules | `(tactic| walk_at "at") => `(tactic| first | rfl | assumption)
/-- what stands at an address -/
local macro_rules | `(tactic| walk_at "hp") => `(tactic| first | assumption | exact upd_same | ((refine' Eq.trans (upd_ne ?hn) ?hm); (case hm => walk_at "hp"); (case hn => walk_at "ne")))
/-- two places are two -/
local macro_rules | `(tactic| walk_at "ne") => `(tactic| first
  | assumption | exact Ne.symm (by assumption)
  | ((refine' ne_of_none ?ha ?hb); (case hb => assumption); (case ha => walk_at "hp")) | ((refine' Ne.symm (ne_of_none ?ha ?hb)); (case hb => assumption); (case ha => walk_at "hp")))
/-- what a dict tells -/
local macro_rules | `(tactic| walk_at "dg") => `(tactic| first | assumption)
/-- a length -/
local macro_rules | `(tactic| walk_at "sz") => `(tactic| first | (show _ ≤ sizeLine; decide) | (show _ < sizeLine; decide) | assumption | exact szlt (by simp) | exact szle (by simp))
/-- a list or tuple that stands -/
local macro_rules | `(tactic| walk_at "lk") => `(tactic| first | assumption | exact SqL.of (by assumption) | exact SqT.of (by assumption) | exact SqL.of upd_same | exact SqT.of upd_same | (refine' FzL.sq ?hm; (case hm => walk_at "fz")))
/-- a list that nobody writes -/
local macro_rules | `(tactic| walk_at "fz") => `(tactic| first | assumption | ((refine' FzL.uw ?hm ?hx); (case hx => walk_at "hp"); (case hm => walk_at "fz")) | ((refine' FzL.nw ?hm ?hx); (case hx => assumption); (case hm => walk_at "fz")))
/-- as far as it goes by itself -/
local macro_rules | `(tactic| walk_at "g") => `(tactic| repeat walk_at "g1")
/-- the body's reading, its places in short -/
local macro_rules | `(tactic| walk_at "go") => `(tactic| ((try dsimp only [cxOf, Cx.nox, Cx.wish]); walk_at "g"))
namespace K3
open PySem PySem.Spec PyProof.Rows L2 Bq
section
variable {P : Program} {w : World} {K : PySem.W.Frag} {mg : Str → Option Value} {base : Heap}
/-! ### the law's own machine, as it lies in the heap -/
structure LD where
  fu : V
  sa : Addr
  ce : Addr
  na : Addr
  wt : Addr
  fl : Int
  cl : Int
  en : V
  wo : V
  lk : V
  sd : List Int
  cs : List Int
  nm : List Int
  ws : List V
  bs : List (Addr × List Int)
def iv (l : List Int) : List V := l.map V.int
theorem iv_len (l : List Int) : (iv l).length = l.length := List.length_map ..
theorem iv_app (a b : List Int) : iv (a ++ b) = iv a ++ iv b := List.map_append
theorem iv_get {l : List Int} {n : Nat} {v : Int} (h : l[n]? = some v) : (iv l)[n]? = some (.int v) := by
  unfold iv
  rw [List.getElem?_map, h]
  rfl
def wkv (x : LD) : List (Key × V) := [(Sum.inr "funs", x.fu), (Sum.inr "said", .ref x.sa), (Sum.inr "cells", .ref x.ce), (Sum.inr "fuel", .int x.fl), (Sum.inr "end", x.en), (Sum.inr "calls", .int x.cl),
  (Sum.inr "names", .ref x.na), (Sum.inr "waits", .ref x.wt), (Sum.inr "worth", x.wo), (Sum.inr "look", x.lk)]
def LD.as (x : LD) : List Addr := x.sa :: x.ce :: x.na :: x.wt :: x.bs.map (·.1)
structure LH (K : PySem.W.Frag) (H0 H : Hp) (wa : Addr) (x : LD) : Prop where
  c : Ch K [] H0 H
  wd : H wa = some (.dK (wkv x))
  hs : H x.sa = some (.lst (iv x.sd))
  hc : H x.ce = some (.lst (iv x.cs))
  hn : H x.na = some (.lst (iv x.nm))
  hw : H x.wt = some (.lst x.ws)
  hb : ∀ p ∈ x.bs, H p.1 = some (.lst (iv p.2))
  f : H0 wa = none
  fr : ∀ a ∈ x.as, H0 a = none
  nd : x.as.Nodup
section
variable {H0 H H' : Hp} {wa p : Addr} {x : LD}
theorem LH.ch (h : LH K H0 H wa x) (c : Ch K [] H H') : LH K H0 H' wa x :=
  ⟨h.c.trans c, c.up _ _ h.wd (by simp), c.up _ _ h.hs (by simp), c.up _ _ h.hc (by simp), c.up _ _ h.hn (by simp), c.up _ _ h.hw (by simp), fun p hp => c.up _ _ (h.hb p hp) (by simp), h.f, h.fr, h.nd⟩
/-- what stands at the lists -/
theorem LH.lst (h : LH K H0 H wa x) {a : Addr} (ha : a ∈ x.as) : ∃ xs, H a = some (.lst xs) := by
  simp only [LD.as, List.mem_cons, List.mem_map] at ha
  rcases ha with rfl | rfl | rfl | rfl | ⟨p, hp, rfl⟩
  · exact ⟨_, h.hs⟩
  · exact ⟨_, h.hc⟩
  · exact ⟨_, h.hn⟩
  · exact ⟨_, h.hw⟩
  · exact ⟨_, h.hb p hp⟩
theorem LH.new (h : LH K H0 H wa x) (n : H p = none) : p ∉ x.as := fun hp => by
  obtain ⟨_, e⟩ := h.lst hp
  rw [n] at e
  cases e
theorem LH.wne (h : LH K H0 H wa x) {a : Addr} (ha : a ∈ x.as) : a ≠ wa := by
  obtain ⟨xs, e⟩ := h.lst ha
  exact ne_of e h.wd (by intro z; cases z)
/-- the dict written: numbers, end, worth, look -/
theorem LH.put (h : LH K H0 H wa x) (y : LD) (ha : y.as = x.as := by rfl) (h1 : y.sd = x.sd := by rfl) (h2 : y.cs = x.cs := by rfl) (h3 : y.nm = x.nm := by rfl) (h4 : y.ws = x.ws := by rfl) (h5 : y.bs = x.bs := by rfl) :
    LH K H0 (upd H wa (.dK (wkv y))) wa y := by
  have hh : y.sa = x.sa ∧ y.ce = x.ce ∧ y.na = x.na ∧ y.wt = x.wt := by
    simp only [LD.as, List.cons.injEq] at ha
    exact ⟨ha.1, ha.2.1, ha.2.2.1, ha.2.2.2.1⟩
  obtain ⟨e1, e2, e3, e4⟩ := hh
  have w : ∀ {a : Addr}, a ∈ x.as → a ≠ wa := fun q => h.wne q
  refine ⟨Ch.wrN h.c h.f h.wd rfl, upd_same, ?_, ?_, ?_, ?_, ?_, h.f, ?_, ?_⟩
  · rw [e1, h1, upd_ne (w (by simp [LD.as]))]; exact h.hs
  · rw [e2, h2, upd_ne (w (by simp [LD.as]))]; exact h.hc
  · rw [e3, h3, upd_ne (w (by simp [LD.as]))]; exact h.hn
  · rw [e4, h4, upd_ne (w (by simp [LD.as]))]; exact h.hw
  · intro p hp
    rw [h5] at hp
    rw [upd_ne (w (by simp only [LD.as, List.mem_cons, List.mem_map]; exact .inr (.inr (.inr (.inr ⟨p, hp, rfl⟩)))))]
    exact h.hb p hp
  · rw [ha]; exact h.fr
  · rw [ha]; exact h.nd
/-- one of the lists written -/
theorem LH.wr (h : LH K H0 H wa x) {a : Addr} (ha : a ∈ x.as) {o : HO} : Ch K [] H0 (upd H a o) ∧ (upd H a o) wa = some (.dK (wkv x)) ∧ ∀ b ∈ x.as, b ≠ a → (upd H a o) b = H b := by
  obtain ⟨xs, e⟩ := h.lst ha
  exact ⟨Ch.wrN h.c (h.fr a ha) e rfl, by rw [upd_ne (h.wne ha).symm]; exact h.wd, fun b _ n => upd_ne n⟩
theorem LH.said (h : LH K H0 H wa x) (l : List Int) : LH K H0 (upd H x.sa (.lst (iv l))) wa { x with sd := l } := by
  obtain ⟨c, w, k⟩ := h.wr (a := x.sa) (o := .lst (iv l)) (by simp [LD.as])
  have nd := h.nd
  simp only [LD.as, List.nodup_cons, List.mem_cons, not_or] at nd
  refine ⟨c, w, upd_same, ?_, ?_, ?_, fun p hp => ?_, h.f, h.fr, h.nd⟩
  · rw [upd_ne (Ne.symm nd.1.1)]; exact h.hc
  · rw [upd_ne (Ne.symm nd.1.2.1)]; exact h.hn
  · rw [upd_ne (Ne.symm nd.1.2.2.1)]; exact h.hw
  · rw [upd_ne (fun z => nd.1.2.2.2 (List.mem_map.mpr ⟨p, hp, z⟩))]; exact h.hb p hp
theorem LH.cell (h : LH K H0 H wa x) (l : List Int) : LH K H0 (upd H x.ce (.lst (iv l))) wa { x with cs := l } := by
  obtain ⟨c, w, k⟩ := h.wr (a := x.ce) (o := .lst (iv l)) (by simp [LD.as])
  have nd := h.nd
  simp only [LD.as, List.nodup_cons, List.mem_cons, not_or] at nd
  refine ⟨c, w, ?_, upd_same, ?_, ?_, fun p hp => ?_, h.f, h.fr, h.nd⟩
  · rw [upd_ne nd.1.1]; exact h.hs
  · rw [upd_ne (Ne.symm nd.2.1.1)]; exact h.hn
  · rw [upd_ne (Ne.symm nd.2.1.2.1)]; exact h.hw
  · rw [upd_ne (fun z => nd.2.1.2.2 (List.mem_map.mpr ⟨p, hp, z⟩))]; exact h.hb p hp
theorem LH.name (h : LH K H0 H wa x) (l : List Int) : LH K H0 (upd H x.na (.lst (iv l))) wa { x with nm := l } := by
  obtain ⟨c, w, k⟩ := h.wr (a := x.na) (o := .lst (iv l)) (by simp [LD.as])
  have nd := h.nd
  simp only [LD.as, List.nodup_cons, List.mem_cons, not_or] at nd
  refine ⟨c, w, ?_, ?_, upd_same, ?_, fun p hp => ?_, h.f, h.fr, h.nd⟩
  · rw [upd_ne nd.1.2.1]; exact h.hs
  · rw [upd_ne nd.2.1.1]; exact h.hc
  · rw [upd_ne (Ne.symm nd.2.2.1.1)]; exact h.hw
  · rw [upd_ne (fun z => nd.2.2.1.2 (List.mem_map.mpr ⟨p, hp, z⟩))]; exact h.hb p hp
theorem LH.wait (h : LH K H0 H wa x) (l : List V) : LH K H0 (upd H x.wt (.lst l)) wa { x with ws := l } := by
  obtain ⟨c, w, k⟩ := h.wr (a := x.wt) (o := .lst l) (by simp [LD.as])
  have nd := h.nd
  simp only [LD.as, List.nodup_cons, List.mem_cons, not_or] at nd
  refine ⟨c, w, ?_, ?_, ?_, upd_same, fun p hp => ?_, h.f, h.fr, h.nd⟩
  · rw [upd_ne nd.1.2.2.1]; exact h.hs
  · rw [upd_ne nd.2.1.2.1]; exact h.hc
  · rw [upd_ne nd.2.2.1.1]; exact h.hn
  · rw [upd_ne (fun z => nd.2.2.2.1 (List.mem_map.mpr ⟨p, hp, z⟩))]; exact h.hb p hp
/-- another list for what waits -/
theorem LH.wait2 (h : LH K H0 H wa x) {l : List V} (e : H p = some (.lst l)) (n : p ∉ x.as) (n0 : H0 p = none) : LH K H0 (upd H wa (.dK (wkv { x with wt := p, ws := l }))) wa { x with wt := p, ws := l } := by
  have nd := h.nd
  have w : ∀ {a : Addr}, a ∈ x.as → a ≠ wa := fun q => h.wne q
  have wp : p ≠ wa := ne_of e h.wd (by intro z; cases z)
  simp only [LD.as, List.mem_cons, not_or] at n
  simp only [LD.as, List.nodup_cons, List.mem_cons, not_or] at nd
  refine ⟨Ch.wrN h.c h.f h.wd rfl, upd_same, ?_, ?_, ?_, ?_, fun q hq => ?_, h.f, fun a ha => ?_, ?_⟩
  · rw [upd_ne (w (by simp [LD.as]))]; exact h.hs
  · rw [upd_ne (w (by simp [LD.as]))]; exact h.hc
  · rw [upd_ne (w (by simp [LD.as]))]; exact h.hn
  · rw [upd_ne wp]; exact e
  · rw [upd_ne (w (by simp only [LD.as, List.mem_cons, List.mem_map]; exact .inr (.inr (.inr (.inr ⟨q, hq, rfl⟩)))))]; exact h.hb q hq
  · simp only [LD.as, List.mem_cons] at ha
    rcases ha with rfl | rfl | rfl | rfl | ha
    · exact h.fr _ (by simp [LD.as])
    · exact h.fr _ (by simp [LD.as])
    · exact h.fr _ (by simp [LD.as])
    · exact n0
    · exact h.fr _ (by simp only [LD.as, List.mem_cons]; exact .inr (.inr (.inr (.inr ha))))
  · simp only [LD.as, List.nodup_cons, List.mem_cons, not_or]
    exact ⟨⟨nd.1.1, nd.1.2.1, Ne.symm n.1, nd.1.2.2.2⟩, ⟨nd.2.1.1, Ne.symm n.2.1, nd.2.1.2.2⟩, ⟨Ne.symm n.2.2.1, nd.2.2.1.2⟩, n.2.2.2.2, nd.2.2.2.2⟩
/-- other names, the old ones kept -/
theorem LH.call (h : LH K H0 H wa x) {l : List Int} (e : H p = some (.lst (iv l))) (n : p ∉ x.as) (n0 : H0 p = none) :
    LH K H0 (upd H wa (.dK (wkv { x with na := p, nm := l, bs := (x.na, x.nm) :: x.bs }))) wa { x with na := p, nm := l, bs := (x.na, x.nm) :: x.bs } := by
  have nd := h.nd
  have w : ∀ {a : Addr}, a ∈ x.as → a ≠ wa := fun q => h.wne q
  have wp : p ≠ wa := ne_of e h.wd (by intro z; cases z)
  simp only [LD.as, List.mem_cons, not_or] at n
  simp only [LD.as, List.nodup_cons, List.mem_cons, not_or] at nd
  refine ⟨Ch.wrN h.c h.f h.wd rfl, upd_same, ?_, ?_, ?_, ?_, fun q hq => ?_, h.f, fun a ha => ?_, ?_⟩
  · rw [upd_ne (w (by simp [LD.as]))]; exact h.hs
  · rw [upd_ne (w (by simp [LD.as]))]; exact h.hc
  · rw [upd_ne wp]; exact e
  · rw [upd_ne (w (by simp [LD.as]))]; exact h.hw
  · rcases List.mem_cons.mp hq with rfl | hq
    · rw [upd_ne (w (by simp [LD.as]))]; exact h.hn
    · rw [upd_ne (w (by simp only [LD.as, List.mem_cons, List.mem_map]; exact .inr (.inr (.inr (.inr ⟨q, hq, rfl⟩)))))]; exact h.hb q hq
  · simp only [LD.as, List.mem_cons, List.map_cons] at ha
    rcases ha with rfl | rfl | rfl | rfl | rfl | ha
    · exact h.fr _ (by simp [LD.as])
    · exact h.fr _ (by simp [LD.as])
    · exact n0
    · exact h.fr _ (by simp [LD.as])
    · exact h.fr _ (by simp [LD.as])
    · exact h.fr _ (by simp only [LD.as, List.mem_cons]; exact .inr (.inr (.inr (.inr ha))))
  · simp only [LD.as, List.nodup_cons, List.mem_cons, not_or, List.map_cons]
    exact ⟨⟨nd.1.1, Ne.symm n.1, nd.1.2.2.1, nd.1.2.1, nd.1.2.2.2⟩, ⟨Ne.symm n.2.1, nd.2.1.2.1, nd.2.1.1, nd.2.1.2.2⟩, ⟨n.2.2.2.1, n.2.2.1, n.2.2.2.2⟩, ⟨Ne.symm nd.2.2.1.1, nd.2.2.2.1⟩, nd.2.2.1.2, nd.2.2.2.2⟩
/-- the names of before -/
theorem LH.back (h : LH K H0 H wa x) {q : Addr × List Int} {r : List (Addr × List Int)} (e : x.bs = q :: r) {z : Int} :
    LH K H0 (upd H wa (.dK (wkv { x with na := q.1, nm := q.2, bs := r, cl := z }))) wa { x with na := q.1, nm := q.2, bs := r, cl := z } := by
  have nd := h.nd
  have w : ∀ {a : Addr}, a ∈ x.as → a ≠ wa := fun q => h.wne q
  have fr := h.fr
  have hb := h.hb
  simp only [LD.as, e] at fr
  simp only [LD.as, List.nodup_cons, List.mem_cons, not_or, e, List.map_cons] at nd
  rw [e] at hb
  have wm : ∀ y ∈ q :: r, y.1 ≠ wa := fun y hy => w (by simp only [LD.as, List.mem_cons, List.mem_map]; exact .inr (.inr (.inr (.inr ⟨y, by rw [e]; exact hy, rfl⟩))))
  refine ⟨Ch.wrN h.c h.f h.wd rfl, upd_same, ?_, ?_, ?_, ?_, fun y hy => ?_, h.f, fun a ha => ?_, ?_⟩
  · rw [upd_ne (w (by simp [LD.as]))]; exact h.hs
  · rw [upd_ne (w (by simp [LD.as]))]; exact h.hc
  · rw [upd_ne (wm q (by simp))]; exact hb q (by simp)
  · rw [upd_ne (w (by simp [LD.as]))]; exact h.hw
  · rw [upd_ne (wm y (by simp [hy]))]; exact hb y (by simp [hy])
  · simp only [LD.as, List.mem_cons] at ha
    refine fr a ?_
    simp only [List.mem_cons, List.map_cons]
    rcases ha with rfl | rfl | rfl | rfl | ha
    · exact .inl rfl
    · exact .inr (.inl rfl)
    · exact .inr (.inr (.inr (.inr (.inl rfl))))
    · exact .inr (.inr (.inr (.inl rfl)))
    · exact .inr (.inr (.inr (.inr (.inr ha))))
  · simp only [LD.as, List.nodup_cons, List.mem_cons, not_or]
    exact ⟨⟨nd.1.1, nd.1.2.2.2.1, nd.1.2.2.1, nd.1.2.2.2.2⟩, ⟨nd.2.1.2.2.1, nd.2.1.2.1, nd.2.1.2.2.2⟩, ⟨Ne.symm nd.2.2.2.1.1, nd.2.2.2.2.1⟩, nd.2.2.2.1.2, nd.2.2.2.2.2⟩
theorem wkv_len (x : LD) : (wkv x).length < sizeLine := szlt (by simp [wkv])
end
/-! ### what waits -/
def IsThing (K : PySem.W.Frag) (H : Hp) (v : V) (t : Th) (ws : List Int) : Prop := ∃ a v1 tw, v = .ref a ∧ SqT K H a [.str "thing", v1, .ref tw] ∧ Rep K H v1 (encT t) ∧ SqT K H tw (iv ws)
def IsBack (K : PySem.W.Frag) (H : Hp) (v : V) (na : Addr) : Prop := ∃ a, v = .ref a ∧ SqT K H a [.str "back", .ref na, .int 0]
def IsBody (K : PySem.W.Frag) (H : Hp) (v : V) (b : List Dd) (i : Nat) : Prop := ∃ a v1, v = .ref a ∧ SqT K H a [.str "body", v1, .int (i : Nat)] ∧ Rep K H v1 (.tup (encB b))
def IsAgain (K : PySem.W.Frag) (H : Hp) (v : V) (d : Dd) : Prop := ∃ a v1, v = .ref a ∧ SqT K H a [.str "again", v1, .int 0] ∧ Rep K H v1 (encDd d)
mutual
def encV (K : PySem.W.Frag) (H : Hp) : VS → List V → List (Addr × List Int) → Prop
  | .part t ws r, xs, bs => ∃ ys v, xs = ys ++ [v] ∧ IsThing K H v (.p t) ws ∧ encV K H r ys bs
  | .deed d ws r, xs, bs => ∃ ys v, xs = ys ++ [v] ∧ IsThing K H v (.d d) ws ∧ encD K H r ys bs
def encD (K : PySem.W.Frag) (H : Hp) : DS → List V → List (Addr × List Int) → Prop
  | .nil, xs, bs => xs = [] ∧ bs = []
  | .back ns r, xs, bs => ∃ ys v na bs', xs = ys ++ [v] ∧ IsBack K H v na ∧ bs = (na, ns) :: bs' ∧ encV K H r ys bs'
  | .body b i r, xs, bs => ∃ ys v, xs = ys ++ [v] ∧ IsBody K H v b i ∧ encD K H r ys bs
  | .again p b r, xs, bs => ∃ ys v, xs = ys ++ [v] ∧ IsAgain K H v (.whl p b) ∧ encD K H r ys bs
end
section
variable {H H' : Hp}
theorem IsThing.kt (k : Kt K H H') {v : V} {t : Th} {ws : List Int} : IsThing K H v t ws → IsThing K H' v t ws
  | ⟨a, v1, tw, e, h, r, q⟩ => ⟨a, v1, tw, e, k.t _ _ h, r.kt k, k.t _ _ q⟩
theorem IsBack.kt (k : Kt K H H') {v : V} {na : Addr} : IsBack K H v na → IsBack K H' v na
  | ⟨a, e, h⟩ => ⟨a, e, k.t _ _ h⟩
theorem IsBody.kt (k : Kt K H H') {v : V} {b : List Dd} {i : Nat} : IsBody K H v b i → IsBody K H' v b i
  | ⟨a, v1, e, h, r⟩ => ⟨a, v1, e, k.t _ _ h, r.kt k⟩
theorem IsAgain.kt (k : Kt K H H') {v : V} {d : Dd} : IsAgain K H v d → IsAgain K H' v d
  | ⟨a, v1, e, h, r⟩ => ⟨a, v1, e, k.t _ _ h, r.kt k⟩
mutual
theorem encV_kt (k : Kt K H H') : ∀ {s : VS} {xs : List V} {bs : List (Addr × List Int)}, encV K H s xs bs → encV K H' s xs bs
  | .part _ _ _, _, _, ⟨ys, v, e, h, r⟩ => ⟨ys, v, e, h.kt k, encV_kt k r⟩
  | .deed _ _ _, _, _, ⟨ys, v, e, h, r⟩ => ⟨ys, v, e, h.kt k, encD_kt k r⟩
theorem encD_kt (k : Kt K H H') : ∀ {s : DS} {xs : List V} {bs : List (Addr × List Int)}, encD K H s xs bs → encD K H' s xs bs
  | .nil, _, _, h => h
  | .back _ _, _, _, ⟨ys, v, na, bs', e, h, e2, r⟩ => ⟨ys, v, na, bs', e, h.kt k, e2, encV_kt k r⟩
  | .body _ _ _, _, _, ⟨ys, v, e, h, r⟩ => ⟨ys, v, e, h.kt k, encD_kt k r⟩
  | .again _ _ _, _, _, ⟨ys, v, e, h, r⟩ => ⟨ys, v, e, h.kt k, encD_kt k r⟩
end
mutual
theorem encV_len : ∀ {s : VS} {xs : List V} {bs : List (Addr × List Int)}, encV K H s xs bs → xs.length ≤ cV s
  | .part _ _ _, _, _, ⟨ys, v, e, h, r⟩ => by have := encV_len r; simp only [e, List.length_append, List.length_cons, List.length_nil, cV]; omega
  | .deed _ _ _, _, _, ⟨ys, v, e, h, r⟩ => by have := encD_len r; simp only [e, List.length_append, List.length_cons, List.length_nil, cV]; omega
theorem encD_len : ∀ {s : DS} {xs : List V} {bs : List (Addr × List Int)}, encD K H s xs bs → xs.length ≤ cD s
  | .nil, _, _, h => by rw [h.1]; exact Nat.le_refl _
  | .back _ _, _, _, ⟨ys, v, na, bs', e, h, e2, r⟩ => by have := encV_len r; simp only [e, List.length_append, List.length_cons, List.length_nil, cD]; omega
  | .body _ _ _, _, _, ⟨ys, v, e, h, r⟩ => by have := encD_len r; simp only [e, List.length_append, List.length_cons, List.length_nil, cD]; omega
  | .again _ _ _, _, _, ⟨ys, v, e, h, r⟩ => by have := encD_len r; simp only [e, List.length_append, List.length_cons, List.length_nil, cD]; omega
end
end
/-- the dict's entry for what comes next -/
def CtlAt (K : PySem.W.Frag) (H : Hp) (x : LD) : Ctl → Prop
  | .look p s => (∃ a, x.lk = .ref a) ∧ Rep K H x.lk (encP p) ∧ x.wo = .non ∧ encV K H s x.ws x.bs
  | .give v s => x.lk = .non ∧ x.wo = .int v ∧ encV K H s x.ws x.bs
  | .go s => x.lk = .non ∧ x.wo = .non ∧ encD K H s x.ws x.bs
  | .ret v s => x.lk = .non ∧ x.wo = .int v ∧ encD K H s x.ws x.bs
/-- the dict stands for the state, but for what comes next -/
structure LB (K : PySem.W.Frag) (H0 H : Hp) (wa : Addr) (fs : List Fu) (x : LD) (st : Bq.St) : Prop where
  h : LH K H0 H wa x
  fu : Rep K H x.fu (.tup (fs.map encF))
  sd : x.sd = st.said
  cs : x.cs = st.cells
  fl : x.fl = (st.fuel : Nat)
  cl : x.cl = (st.calls : Nat)
  nm : x.nm = st.names
  en : x.en = .non
structure LS (K : PySem.W.Frag) (H0 H : Hp) (wa : Addr) (fs : List Fu) (x : LD) (st : Bq.St) : Prop extends LB K H0 H wa fs x st where
  ct : CtlAt K H x st.c
def enV : En → List V
  | .worth v => [.str "worth", .int v]
  | .fault w => [.str "fault", .str w]
  | .long => [.str "long"]
structure LE (K : PySem.W.Frag) (H0 H : Hp) (wa : Addr) (x : LD) (fi : Fi) : Prop where
  h : LH K H0 H wa x
  sd : x.sd = fi.said
  cs : x.cs = fi.cells
  en : ∃ a, x.en = .ref a ∧ SqT K H a (enV fi.en)
/-! ### reading and writing the dict -/
section
variable {H0 H H' : Hp} {wa p : Addr} {x : LD}
theorem LH.gfuns (h : LH K H0 H wa x) : DGet H wa (.str "funs") (some x.fu) := DGet.k (k := Sum.inr "funs") h.wd
theorem LH.gsaid (h : LH K H0 H wa x) : DGet H wa (.str "said") (some (.ref x.sa)) := DGet.k (k := Sum.inr "said") h.wd
theorem LH.gcells (h : LH K H0 H wa x) : DGet H wa (.str "cells") (some (.ref x.ce)) := DGet.k (k := Sum.inr "cells") h.wd
theorem LH.gfuel (h : LH K H0 H wa x) : DGet H wa (.str "fuel") (some (.int x.fl)) := DGet.k (k := Sum.inr "fuel") h.wd
theorem LH.gend (h : LH K H0 H wa x) : DGet H wa (.str "end") (some x.en) := DGet.k (k := Sum.inr "end") h.wd
theorem LH.gcalls (h : LH K H0 H wa x) : DGet H wa (.str "calls") (some (.int x.cl)) := DGet.k (k := Sum.inr "calls") h.wd
theorem LH.gnames (h : LH K H0 H wa x) : DGet H wa (.str "names") (some (.ref x.na)) := DGet.k (k := Sum.inr "names") h.wd
theorem LH.gwaits (h : LH K H0 H wa x) : DGet H wa (.str "waits") (some (.ref x.wt)) := DGet.k (k := Sum.inr "waits") h.wd
theorem LH.gworth (h : LH K H0 H wa x) : DGet H wa (.str "worth") (some x.wo) := DGet.k (k := Sum.inr "worth") h.wd
theorem LH.glook (h : LH K H0 H wa x) : DGet H wa (.str "look") (some x.lk) := DGet.k (k := Sum.inr "look") h.wd
theorem LH.kt (h : LH K H0 H wa x) {o : HO} : Kt K H (upd H wa o) := (Ch.wr (S := [wa]) h.wd rfl (by simp)).kt
theorem g_dput {R : Hp → Prop} {k : Str} {v : V} (y : LD) (h : LH K H0 H wa x) (hy : LH K H0 (upd H wa (.dK (wkv y))) wa y) (q : ∀ H', Kt K H H' → LH K H0 H' wa y → R H') (hk : putK (wkv x) (Sum.inr k) v = wkv y := by rfl) :
    ∃ a H4, V.ref wa = .ref a ∧ DPut H a (.str k) v H4 ∧ R H4 :=
  ⟨wa, _, rfl, DPut.k (k := Sum.inr k) h.wd (wkv_len x), q _ h.kt (by rw [hk]; exact hy)⟩
theorem g_sdput {td ty tv : TE} {D : Ends} {σ : L2.St} (h : tv σ H fun v H1 => td σ H1 fun x H2 => ty σ H2 fun y H3 => ∃ a H4, x = .ref a ∧ DPut H3 a y v H4 ∧ D.nx σ H4) : sDPut td ty tv D σ H := h
theorem g_gtup {n : Nat} {t : TGs} {a : Addr} {xs : List V} {σ : L2.St} {Q : L2.St → Hp → Prop} (h : SqT K H a xs) (hl : xs.length = n) (q : t xs σ H Q) : gTup K n t (.ref a) σ H Q := ⟨a, xs, rfl, h, hl, q⟩
theorem g_gcons {t : TG} {u : TGs} {v : V} {r : List V} {σ : L2.St} {Q : L2.St → Hp → Prop} (q : t v σ H fun σ' H' => u r σ' H' Q) : gCons t u (v :: r) σ H Q := ⟨v, r, rfl, q⟩
theorem g_gnil {σ : L2.St} {Q : L2.St → Hp → Prop} (q : Q σ H) : gNil [] σ H Q := ⟨rfl, q⟩
theorem g_notN {v : V} {Q : VK} (q : Q (.bl (!decide (v = .non))) H) : (fun (x y : V) (H : Hp) (Q : VK) => y = .non ∧ Q (.bl (!decide (x = .non))) H) v .non H Q := ⟨rfl, q⟩
end
/-- i <= j < k of ints that are known -/
theorem g_chainR {ta tb tc : TE} {i j k : Int} {σ : L2.St} {H : Hp} {Q : VK} (h1 : ∀ R : VK, R (.int i) H → ta σ H R) (h2 : ∀ R : VK, R (.int j) H → tb σ H R) (h3 : ∀ R : VK, R (.int k) H → tc σ H R)
    (q : Q (.bl (decide (i ≤ j) && decide (j < k))) H) : tChain (rI0 fun i j => V.bl (decide (i ≤ j))) (rI0 fun i j => V.bl (decide (i < j))) ta tb tc σ H Q := by
  refine h1 _ (h2 _ (g_I0 ⟨_, rfl, ?_⟩))
  cases e : decide (i ≤ j) with
  | false =>
    rw [if_neg Bool.false_ne_true]
    rw [e] at q
    exact q
  | true =>
    rw [if_pos rfl]
    rw [e] at q
    exact h3 _ (g_I0 q)
end
end K3
end

section
set_option maxRecDepth 100000
set_option maxHeartbeats 1000000
open Bq L2
/-- one step of a reading; what is left are side goals and places to think -/
local macro_rules | `(tactic| walk_at "g1") => `(tactic| first
  | with_reducible refine' g_seq ?_ | with_reducible refine' g_asg ?_ | with_reducible refine' g_drop ?_ | with_reducible refine' g_ret ?_ | with_reducible refine' g_ifS ?_ | with_reducible refine' g_asgG ?_
  | ((with_reducible refine' g_var ?hv ?_); (case hv => rfl))
  | with_reducible refine' g_c ?_ | with_reducible refine' g_op ?_ | with_reducible refine' g_un ?_ | with_reducible refine' g_I0 ?_ | with_reducible refine' g_U ?_
  | with_reducible refine' g_test ?_ | with_reducible refine' g_tB ?_ | with_reducible refine Exists.intro _ (And.intro rfl ?_) 
  | ((with_reducible refine' g_andP ?ha ?hb ?_); (case ha => intro R q; walk_at "g"; exact q); (case hb => intro R q; walk_at "g"; exact q))
  | ((with_reducible refine' g_orP ?ha ?hb ?_); (case ha => intro R q; walk_at "g"; exact q); (case hb => intro R q; walk_at "g"; exact q))
  | with_reducible refine' g_and ?_ | with_reducible refine' g_or ?_ | with_reducible refine' g_not ?_
  | with_reducible refine' g_andV ?_ | with_reducible refine' g_orV ?_ | with_reducible refine' g_notV ?_ | with_reducible refine' g_if ?_ | with_reducible refine' g_nil ?_ | with_reducible refine' g_cons ?_
  | with_reducible refine' g_tup ?_ | with_reducible refine' g_lst ?_ | with_reducible refine' g_CB ?_ | with_reducible refine' g_Fn ?_ | with_reducible refine' g_next ?_ | with_reducible refine' g_retN ?_
  | with_reducible refine' g_name ?_ | with_reducible refine' g_sub ?_
  | ((with_reducible refine' g_ixL ?hs ?he ?_); (case hs => walk_at "lk"); (case he => walk_at "at"))
  | ((with_reducible refine' g_ixT ?hs ?he ?_); (case hs => walk_at "lk"); (case he => walk_at "at"))
  | ((with_reducible refine' g_setL ?hs ?he ?_); (case hs => walk_at "hp"); (case he => rfl))
  | ((with_reducible refine' g_app ?hs ?hz ?_); (case hs => walk_at "hp"); (case hz => walk_at "sz"))
  | ((with_reducible refine' ⟨_, _, rfl, Or.inl ?hs, ?_⟩); (case hs => walk_at "lk"))
  | ((with_reducible refine' ⟨_, _, rfl, Or.inr ?hs, ?_⟩); (case hs => walk_at "lk"))
  | with_reducible refine' g_BM ?_ | with_reducible refine' g_BM0 ?_ | ((with_reducible refine' g_tyL ?hs ?_); (case hs => walk_at "lk"))
  | with_reducible refine' g_sl ?_ | with_reducible refine' g_noPart ?_ | with_reducible refine' g_part ?_
  | ((with_reducible refine' g_inT ?hs ?fx ?fs ?_); (case hs => walk_at "lk"); (case fx => rfl); (case fs => rfl))
  | with_reducible refine' g_pair ?_ | with_reducible refine' g_pair0 ?_ | with_reducible refine' g_disp ?_
  | with_reducible refine' g_for ?_ | with_reducible refine' g_tupC ?_ | with_reducible refine' g_lstC ?_ | ((with_reducible refine' g_lens ?_)) | with_reducible refine' g_dg ?_ | with_reducible refine' g_lc ?_ | with_reducible refine' g_rng1 ?_ | with_reducible refine' g_ilist ?_ | with_reducible refine' g_itup ?_
  | ((with_reducible refine' ⟨_, _, rfl, ?hd, ?_⟩); (case hd => walk_at "dg"))
  | ((with_reducible refine' g_eqNil ?hs ?hz ?_); (case hs => walk_at "lk"); (case hz => walk_at "lk"))
  | ((with_reducible refine' g_neNil ?hs ?hz ?_); (case hs => walk_at "lk"); (case hz => walk_at "lk"))
  | with_reducible refine Or.inl ⟨_, rfl, ?_⟩
  | with_reducible refine Or.inr ⟨_, rfl, ?_⟩
  | ((with_reducible refine' g_eq ?hs ?_); (case hs => rfl))
  | ((with_reducible refine' g_ne ?hs ?_); (case hs => rfl))
  | ((with_reducible refine' g_I ?hc ?_); (case hc => walk_at "ar")))
/-- arithmetic's side conditions -/
local macro_rules | `(tactic| walk_at "ar") => `(tactic| (first
  | (show (0 : Int) < _; first | omega | decide) | (show (0 : Int) < _ ∧ _; constructor <;> omega) | (show ¬ (_ : Int) = _; omega) | (show (_ : Int) ≠ _ ∧ _; constructor <;> omega)
  | (show (-(2 ^ 64) < _ ∧ _) ∨ _; (first | (left; constructor <;> omega) | (right; constructor <;> omega))) | (show (0 : Int) ≤ _ ∧ _ ∧ _; refine ⟨by omega, by omega, by decide⟩)))
/-- what stands at an index -/
local macro_rules | `(tactic| walk_at "at") => `(tactic| first | rfl | assumption)
/-- what stands at an address -/
local macro_rules | `(tactic| walk_at "hp") => `(tactic| first | assumption | exact upd_same | ((refine' Eq.trans (upd_ne ?hn) ?hm); (case hm => walk_at "hp"); (case hn => walk_at "ne")))
/-- two places are two -/
local macro_rules | `(tactic| walk_at "ne") => `(tactic| first
  | assumption | exact Ne.symm (by assumption)
  | ((refine' ne_of_none ?ha ?hb); (case hb => assumption); (case ha => walk_at "hp")) | ((refine' Ne.symm (ne_of_none ?ha ?hb)); (case hb => assumption); (case ha => walk_at "hp")))
/-- what a dict tells -/
local macro_rules | `(tactic| walk_at "dg") => `(tactic| first | assumption)
/-- a length -/
local macro_rules | `(tactic| walk_at "sz") => `(tactic| first | (show _ ≤ sizeLine; decide) | (show _ < sizeLine; decide) | assumption | exact szlt (by simp) | exact szle (by simp))
/-- a list or tuple that stands -/
local macro_rules | `(tactic| walk_at "lk") => `(tactic| first | assumption | exact SqL.of (by assumption) | exact SqT.of (by assumption) | exact SqL.of upd_same | exact SqT.of upd_same | (refine' FzL.sq ?hm; (case hm => walk_at "fz")))
/-- a list that nobody writes -/
local macro_rules | `(tactic| walk_at "fz") => `(tactic| first | assumption | ((refine' FzL.uw ?hm ?hx); (case hx => walk_at "hp"); (case hm => walk_at "fz")) | ((refine' FzL.nw ?hm ?hx); (case hx => assumption); (case hm => walk_at "fz")))
/-- as far as it goes by itself -/
local macro_rules | `(tactic| walk_at "g") => `(tactic| repeat walk_at "g1")
/-- the body's reading, its places in short -/
local macro_rules | `(tactic| walk_at "go") => `(tactic| ((try dsimp only [cxOf, Cx.nox, Cx.wish]); walk_at "g"))
namespace K3
open PySem PySem.Spec PyProof.Rows L2 Bq
section
variable {P : Program} {w : World} {K : PySem.W.Frag} {mg : Str → Option Value} {base : Heap}
/-- further steps: dicts written, tuples taken apart -/
local macro_rules | `(tactic| walk_at "g1") => `(tactic| first
  | with_reducible refine' g_sdput ?_
  | ((with_reducible refine' g_gtup ?hs ?hl ?_); (case hs => walk_at "lk"); (case hl => rfl))
  | with_reducible refine' g_gcons ?_
  | with_reducible refine' g_gnil ?_
  | with_reducible refine' And.intro (Eq.refl V.non) ?_
  | with_reducible refine' g_isN ?_
  | ((with_reducible refine' g_chainR ?ha ?hb ?hc ?_); (case ha => intro R q; walk_at "g"; exact q); (case hb => intro R q; walk_at "g"; exact q); (case hc => intro R q; walk_at "g"; exact q))
  | with_reducible refine' g_notN ?_)
/-- what the law's dict tells -/
local macro_rules | `(tactic| walk_at "dg") => `(tactic| first
  | assumption
  | exact LH.gfuns (by assumption)
  | exact LH.gsaid (by assumption)
  | exact LH.gcells (by assumption)
  | exact LH.gfuel (by assumption)
  | exact LH.gend (by assumption)
  | exact LH.gcalls (by assumption)
  | exact LH.gnames (by assumption)
  | exact LH.gwaits (by assumption)
  | exact LH.gworth (by assumption)
  | exact LH.glook (by assumption))
/-- a test that fails, that holds, by itself -/
local macro_rules | `(tactic| walk_at "no") => `(tactic| ((refine tkF rfl ?_); walk_at "g"))
local macro_rules | `(tactic| walk_at "yes") => `(tactic| ((refine tkT rfl ?_); walk_at "g"))
/-! ### the law's own reckoning: goes, calls, deeds done -/
def spGoes (K : PySem.W.Frag) : Sp := fun vs H Q _ => ∃ H0 wa x, ∃ fu : Nat, vs = [.ref wa] ∧ LH K H0 H wa x ∧ x.fl = (fu : Nat) ∧
  (∀ H' n, fu = n + 1 → Kt K H H' → LH K H0 H' wa { x with fl := (n : Nat) } → Q (.bl true) H') ∧
  ∀ H' a, fu = 0 → Kt K H H' → LH K H0 H' wa { x with fl := -1, en := .ref a } → SqT K H' a [.str "long"] → Q (.bl false) H'
theorem fn_goes (C : Cn w K mg base) : Fn P w K mg base CX0 2 "_law_goes" ["_law_w"] (spGoes K) := C.f_law_goes fun fd F => by
  refine F.ok (CX := CX0) sc_law_goes (fun vs H Q E h => ?_) (fun cdv A outer s H vs Q E hr h => ?_)
  · obtain ⟨H0, wa, x, fu, rfl, _⟩ := h
    rfl
  · obtain ⟨H0, wa, x, fu, rfl, h, ef, q1, q2⟩ := h
    have hu := hu_of (rmm (j := 1) hr)
    refine ⟨_, PSs.nox (pss_cons (ps_dput hu (pv 0) pe_str (pe_op op_sub (pe_dget hu (pv 0) pe_str (fun _ _ => rfl)) pe_int) rfl)
      (pss_cons (ps_if (pt_cmpR op_lt (pe_dget hu (pv 0) pe_str (fun _ _ => rfl)) pe_int (nomark _)) (pss_one (ps_dput hu (pv 0) pe_str (pe_tupC (pa_cons pe_str pa_nil)) rfl)) pss_nil)
      (pss_one (ps_ret (pe_cmpR op_ge (pe_dget hu (pv 0) pe_str (fun _ _ => rfl)) pe_int (nomark _)))))), ?_⟩
    walk_at "go"
    rw [ef]
    refine g_dput { x with fl := (fu : Int) - 1 } h (h.put _) fun H1 k1 h1 => ?_
    walk_at "g"
    refine iteB (fun c => ?_) (fun c => ?_)
    · have e0 : fu = 0 := by
        have := of_decide_eq_true c
        simp only at this
        omega
      walk_at "g"
      refine ⟨szle (by simp), fun a H2 _ e2 c2 => ?_⟩
      have h2 := h1.ch c2
      walk_at "g"
      refine g_dput { x with fl := (fu : Int) - 1, en := .ref a } h2 (h2.put _) fun H3 k3 h3 => ?_
      walk_at "g"
      subst e0
      exact q2 H3 a rfl (k1.trans (c2.kt.trans k3)) h3 (k3.t _ _ (SqT.of e2))
    · have c := of_decide_eq_false c
      simp only at c
      obtain ⟨n, rfl⟩ : ∃ n, fu = n + 1 := ⟨fu - 1, by omega⟩
      walk_at "g"
      have en : ((n + 1 : Nat) : Int) - 1 = (n : Nat) := by omega
      rw [en] at h1
      have := q1 H1 n rfl k1 h1
      simpa using this
theorem szl {n : Nat} (h : n ≤ 4100000) : n ≤ sizeLine := Nat.le_trans h (by decide)
theorem szm {n : Nat} (h : n ≤ 4100000) : n < sizeLine := Nat.lt_of_le_of_lt h (by decide)
def spCall (K : PySem.W.Frag) : Sp := fun vs H Q _ => ∃ H0 wa x tw v f qs ws, ∃ (fs : List Fu) (fn : Fu) (fu ca : Nat), vs = [.ref wa, v, .ref tw] ∧ LH K H0 H wa x ∧ Rep K H x.fu (.tup (fs.map encF)) ∧ Rep K H v (encP (.call f qs)) ∧ SqT K H tw (iv ws) ∧
  fs[f]? = some fn ∧ ws.length ≤ 8 ∧ fn.ps ≤ fn.nm ∧ fn.nm ≤ 8 ∧ x.fl = (fu : Nat) ∧ x.cl = (ca : Nat) ∧ ca ≤ 60 ∧ x.ws.length ≤ 4000000 ∧
  (∀ H' a, ca = 60 → Kt K H H' → LH K H0 H' wa { x with en := .ref a } → SqT K H' a [.str "fault", .str "deep"] → Q .non H') ∧
  (∀ H' a, ca < 60 → fu = 0 → Kt K H H' → LH K H0 H' wa { x with fl := -1, en := .ref a } → SqT K H' a [.str "long"] → Q .non H') ∧
  ∀ H' n p q u1 u2, ca < 60 → fu = n + 1 → Kt K H H' → IsBack K H' u1 x.na → IsBody K H' u2 fn.body 0 →
    LH K H0 H' wa { x with fl := (n : Nat), cl := ((ca + 1 : Nat) : Int), wt := p, ws := x.ws ++ [u1, u2], na := q, nm := handed fn ws, bs := (x.na, x.nm) :: x.bs } → Q .non H'
theorem fn_call (C : Cn w K mg base) : Fn P w K mg base CX0 3 "_law_call" ["_law_w", "_law_thing", "_law_worths"] (spCall K) := C.f_law_call fun fd F => by
  have F_law_goes : Fn P w K mg base CX0 2 "_law_goes" ["_law_w"] (spGoes K) := fn_goes C
  refine F.ok (CX := CX0) sc_law_call (fun vs H Q E h => ?_) (fun cdv A outer s H vs Q E hr h => ?_)
  · obtain ⟨H0, wa, x, tw, v, f, qs, ws, fs, fn, fu, ca, rfl, _⟩ := h
    rfl
  · obtain ⟨H0, wa, x, tw, v, f, qs, ws, fs, fn, fu, ca, rfl, h, rf, rv, hw, hf, lw, hpn, hn8, efl, ecl, hca, lws, q1, q2, q3⟩ := h
    have hu := hu_of (rmm (j := 1) hr)
    refine ⟨_, PSs.nox (pss_one (ps_if (pt_cmpR op_eq (pe_dget hu (pv 0) pe_str (fun _ _ => rfl)) pe_int (nomark _)) (pss_one (ps_dput hu (pv 0) pe_str (pe_tupC (pa_cons pe_str (pa_cons pe_str pa_nil))) rfl)) (pss_one (ps_if (pt_val (pe_fn F_law_goes (rmm hr) (by rfl) pass0 (pa_cons (pv 0) pa_nil))) (pss_cons (ps_asg (pe_ix ix_tup (pe_dget hu (pv 0) pe_str (fun _ _ => rfl)) (pe_ix ix_tup (pv 1) pe_int (fun _ _ => rfl)) (fun _ _ => rfl)) (pg_tup rfl (pgs_cons (pg_name (i := 3) sc_law_call.nd rfl (Or.inl rfl)) (pgs_cons (pg_name (i := 4) sc_law_call.nd rfl (Or.inl rfl)) (pgs_cons (pg_name (i := 5) sc_law_call.nd rfl (Or.inl rfl)) pgs_nil)))))
      (pss_cons (ps_dput hu (pv 0) pe_str (pe_op op_catL (pe_dget hu (pv 0) pe_str (fun _ _ => rfl)) (pe_lstC (pa_cons (pe_tupC (pa_cons pe_str (pa_cons (pe_dget hu (pv 0) pe_str (fun _ _ => rfl)) (pa_cons pe_int pa_nil)))) (pa_cons (pe_tupC (pa_cons pe_str (pa_cons (pv 5) (pa_cons pe_int pa_nil)))) pa_nil)))) rfl)
      (pss_cons (ps_dput hu (pv 0) pe_str (pe_op op_catL (pe_callTy call_list_of (by rfl) (C.m_list) (by decide +kernel) (pa_cons (pv 2) pa_nil)) (pe_op op_repL (pe_lstC (pa_cons pe_int pa_nil)) (pe_op op_sub (pv 4) (pv 3)))) rfl)
      (pss_one (ps_dput hu (pv 0) pe_str (pe_op op_add (pe_dget hu (pv 0) pe_str (fun _ _ => rfl)) pe_int) rfl))))) pss_nil)))), ?_⟩
    walk_at "go"
    refine iteB (fun c => ?_) (fun c => ?_)
    · have c := of_decide_eq_true c
      rw [ecl] at c
      have e0 : ca = 60 := by injection c with c; omega
      walk_at "g"
      refine ⟨szle (by simp), fun a H2 _ e2 c2 => ?_⟩
      have h2 := h.ch c2
      walk_at "g"
      refine g_dput { x with en := .ref a } h2 (h2.put _) fun H3 k3 h3 => ?_
      exact q1 H3 a e0 (c2.kt.trans k3) h3 (k3.t _ _ (SqT.of e2))
    · have c := of_decide_eq_false c
      rw [ecl] at c
      have e0 : ca < 60 := by
        have : ca ≠ 60 := fun z => c (by rw [z]; rfl)
        omega
      walk_at "g"
      refine ⟨H0, wa, x, fu, rfl, h, efl, fun H1 n en k1 h1 => ?_, fun H1 a e k1 h1 s1 => ?_⟩
      · walk_at "g"
        refine tkT rfl ?_
        have rv1 := rv.kt k1
        have rf1 := rf.kt k1
        obtain ⟨fa, fvs, efu, hfa, rfs⟩ := rf1.tupI
        obtain ⟨fv, hfv, rfv⟩ := rfs.getT (i := f) (t := encF fn) (by rw [List.getElem?_map, hf]; rfl)
        have hat : atI fvs (f : Nat) = some fv := atI_nat hfv
        obtain ⟨va, vvs, rfl, hva, rvs⟩ := rv1.tupI
        obtain ⟨v0, vr, rfl, r0, rvs⟩ := rvs.consI
        obtain ⟨v1, vr, rfl, r1, rvs⟩ := rvs.consI
        obtain ⟨v2, vr, rfl, r2, rvs⟩ := rvs.consI
        obtain rfl := rvs.nilI
        obtain rfl := r0.strI
        obtain rfl := r1.intI
        clear r2
        obtain ⟨ga, gvs, rfl, hga, rgs⟩ := rfv.tupI
        obtain ⟨g0, gr, rfl, r0, rgs⟩ := rgs.consI
        obtain ⟨g1, gr, rfl, r1, rgs⟩ := rgs.consI
        obtain ⟨g2, gr, rfl, r2, rgs⟩ := rgs.consI
        obtain rfl := rgs.nilI
        obtain rfl := r0.intI
        obtain rfl := r1.intI
        walk_at "g"
        rw [efu]
        walk_at "g"
        refine ⟨szle (by simp), fun a2 H2 _ e2 c2 => ?_⟩
        walk_at "g"
        refine ⟨szle (by simp), fun a3 H3 _ e3 c3 => ?_⟩
        walk_at "g"
        refine ⟨szle (by simp), fun a4 H4 _ e4 c4 => ?_⟩
        walk_at "g"
        have h4 := h1.ch (c2.trans (c3.trans c4))
        refine ⟨_, _, _, _, rfl, rfl, h4.hw, e4, szl (by simp; omega), fun p H5 np ep c5 => ?_⟩
        have h5 := h4.ch c5
        walk_at "g"
        refine g_dput { x with fl := (n : Nat), wt := p, ws := x.ws ++ [.ref a2, .ref a3] } h5 (h5.wait2 ep (h4.new np) (h4.c.free np (by simp))) fun H6 k6 h6 => ?_
        have k16 : Kt K H1 H6 := (c2.trans (c3.trans (c4.trans c5))).kt.trans k6
        have hw6 := k16.t _ _ (k1.t _ _ hw)
        walk_at "g"
        refine fun l7 n7 => ?_
        have c7 : Ch K [] H6 (upd H6 l7 (.lst (iv ws))) := Ch.new n7
        have e7 : (upd H6 l7 (.lst (iv ws))) l7 = some (.lst (iv ws)) := upd_same
        generalize upd H6 l7 (.lst (iv ws)) = H7 at c7 e7 ⊢
        walk_at "g"
        refine ⟨szle (by simp), fun l8 H8 _ e8 c8 => ?_⟩
        walk_at "g"
        have enp : ((fn.nm : Nat) : Int) - (fn.ps : Nat) = ((fn.nm - fn.ps : Nat) : Int) := by omega
        refine ⟨_, _, _, rfl, rfl, e8, by omega, by omega, szle (by simp only [List.length_cons, List.length_nil]; omega), fun l9 H9 n9 e9 c9 => ?_⟩
        walk_at "g"
        have e79 := (c8.trans c9).up _ _ e7 (by simp)
        refine ⟨_, _, _, _, rfl, rfl, e79, e9, szle ?_, fun q H10 nq eq c10 => ?_⟩
        · rw [iv_len, enp, Int.toNat_natCast, List.length_flatten]
          simp
          omega
        have eq' : H10 q = some (.lst (iv (handed fn ws))) := by
          rw [eq, enp, Int.toNat_natCast]
          unfold handed
          rw [iv_app]
          unfold iv
          rw [List.map_replicate, List.flatten_replicate_singleton]
        have h10 := h6.ch (c7.trans (c8.trans (c9.trans c10)))
        walk_at "g"
        have nq6 : H6 q = none := (c7.trans (c8.trans c9)).free nq (by simp)
        refine g_dput { x with fl := (n : Nat), wt := p, ws := x.ws ++ [.ref a2, .ref a3], na := q, nm := handed fn ws, bs := (x.na, x.nm) :: x.bs } h10 (h10.call eq' (h6.new nq6) (h6.c.free nq6 (by simp))) fun H11 k11 h11 => ?_
        walk_at "g"
        refine g_dput { x with fl := (n : Nat), cl := x.cl + 1, wt := p, ws := x.ws ++ [.ref a2, .ref a3], na := q, nm := handed fn ws, bs := (x.na, x.nm) :: x.bs } h11 (h11.put _) fun H12 k12 h12 => ?_
        have k212 : Kt K H2 H12 := c3.kt.trans (c4.kt.trans (c5.kt.trans (k6.trans ((c7.trans (c8.trans (c9.trans c10))).kt.trans (k11.trans k12)))))
        have k312 : Kt K H3 H12 := c4.kt.trans (c5.kt.trans (k6.trans ((c7.trans (c8.trans (c9.trans c10))).kt.trans (k11.trans k12))))
        refine q3 H12 n p q (.ref a2) (.ref a3) e0 en (k1.trans (c2.kt.trans k212)) ⟨a2, rfl, k212.t _ _ (SqT.of e2)⟩ ⟨a3, _, rfl, k312.t _ _ (SqT.of e3), r2.kt (c2.trans c3).kt |>.kt k312⟩ ?_
        rw [ecl] at h12
        exact h12
      · walk_at "g"
        refine tkF rfl ?_
        walk_at "g"
        exact q2 H1 a e0 e k1 h1 s1
end
end K3
end

section
set_option maxRecDepth 100000
set_option maxHeartbeats 1000000
open Bq L2
/-- one step of a reading; what is left are side goals and places to think -/
local macro_rules | `(tactic| walk_at "g1") => `(tactic| first
  | with_reducible refine' g_seq ?_ | with_reducible refine' g_asg ?_ | with_reducible refine' g_drop ?_ | with_reducible refine' g_ret ?_ | with_reducible refine' g_ifS ?_ | with_reducible refine' g_asgG ?_
  | ((with_reducible refine' g_var ?hv ?_); (case hv => rfl))
  | with_reducible refine' g_c ?_ | with_reducible refine' g_op ?_ | with_reducible refine' g_un ?_ | with_reducible refine' g_I0 ?_ | with_reducible refine' g_U ?_
  | with_reducible refine' g_test ?_ | with_reducible refine' g_tB ?_ | with_reducible refine Exists.intro _ (And.intro rfl ?_) 
  | ((with_reducible refine' g_andP ?ha ?hb ?_); (case ha => intro R q; walk_at "g"; exact q); (case hb => intro R q; walk_at "g"; exact q))
  | ((with_reducible refine' g_orP ?ha ?hb ?_); (case ha => intro R q; walk_at "g"; exact q); (case hb => intro R q; walk_at "g"; exact q))
  | with_reducible refine' g_and ?_ | with_reducible refine' g_or ?_ | with_reducible refine' g_not ?_
  | with_reducible refine' g_andV ?_ | with_reducible refine' g_orV ?_ | with_reducible refine' g_notV ?_ | with_reducible refine' g_if ?_ | with_reducible refine' g_nil ?_ | with_reducible refine' g_cons ?_
  | with_reducible refine' g_tup ?_ | with_reducible refine' g_lst ?_ | with_reducible refine' g_CB ?_ | with_reducible refine' g_Fn ?_ | with_reducible refine' g_next ?_ | with_reducible refine' g_retN ?_
  | with_reducible refine' g_name ?_ | with_reducible refine' g_sub ?_
  | ((with_reducible refine' g_ixL ?hs ?he ?_); (case hs => walk_at "lk"); (case he => walk_at "at"))
  | ((with_reducible refine' g_ixT ?hs ?he ?_); (case hs => walk_at "lk"); (case he => walk_at "at"))
  | ((with_reducible refine' g_setL ?hs ?he ?_); (case hs => walk_at "hp"); (case he => rfl))
  | ((with_reducible refine' g_app ?hs ?hz ?_); (case hs => walk_at "hp"); (case hz => walk_at "sz"))
  | ((with_reducible refine' ⟨_, _, rfl, Or.inl ?hs, ?_⟩); (case hs => walk_at "lk"))
  | ((with_reducible refine' ⟨_, _, rfl, Or.inr ?hs, ?_⟩); (case hs => walk_at "lk"))
  | with_reducible refine' g_BM ?_ | with_reducible refine' g_BM0 ?_ | ((with_reducible refine' g_tyL ?hs ?_); (case hs => walk_at "lk"))
  | with_reducible refine' g_sl ?_ | with_reducible refine' g_noPart ?_ | with_reducible refine' g_part ?_
  | ((with_reducible refine' g_inT ?hs ?fx ?fs ?_); (case hs => walk_at "lk"); (case fx => rfl); (case fs => rfl))
  | with_reducible refine' g_pair ?_ | with_reducible refine' g_pair0 ?_ | with_reducible refine' g_disp ?_
  | with_reducible refine' g_for ?_ | with_reducible refine' g_tupC ?_ | with_reducible refine' g_lstC ?_ | ((with_reducible refine' g_lens ?_)) | with_reducible refine' g_dg ?_ | with_reducible refine' g_lc ?_ | with_reducible refine' g_rng1 ?_ | with_reducible refine' g_ilist ?_ | with_reducible refine' g_itup ?_
  | ((with_reducible refine' ⟨_, _, rfl, ?hd, ?_⟩); (case hd => walk_at "dg"))
  | ((with_reducible refine' g_eqNil ?hs ?hz ?_); (case hs => walk_at "lk"); (case hz => walk_at "lk"))
  | ((with_reducible refine' g_neNil ?hs ?hz ?_); (case hs => walk_at "lk"); (case hz => walk_at "lk"))
  | with_reducible refine Or.inl ⟨_, rfl, ?_⟩
  | with_reducible refine Or.inr ⟨_, rfl, ?_⟩
  | ((with_reducible refine' g_eq ?hs ?_); (case hs => rfl))
  | ((with_reducible refine' g_ne ?hs ?_); (case hs => rfl))
  | ((with_reducible refine' g_I ?hc ?_); (case hc => walk_at "ar")))
/-- arithmetic's side conditions -/
local macro_rules | `(tactic| walk_at "ar") => `(tactic| (first
  | (show (0 : Int) < _; first | omega | decide) | (show (0 : Int) < _ ∧ _; constructor <;> omega) | (show ¬ (_ : Int) = _; omega) | (show (_ : Int) ≠ _ ∧ _; constructor <;> omega)
  | (show (-(2 ^ 64) < _ ∧ _) ∨ _; (first | (left; constructor <;> omega) | (right; constructor <;> omega))) | (show (0 : Int) ≤ _ ∧ _ ∧ _; refine ⟨by omega, by omega, by decide⟩)))
/-- what stands at an index -/
local macro_rules | `(tactic| walk_at "at") => `(tactic| first | rfl | assumption)
/-- what stands at an address -/
local macro_rules | `(tactic| walk_at "hp") => `(tactic| first | assumption | exact upd_same | ((refine' Eq.trans (upd_ne ?hn) ?hm); (case hm => walk_at "hp"); (case hn => walk_at "ne")))
/-- two places are two -/
local macro_rules | `(tactic| walk_at "ne") => `(tactic| first
  | assumption | exact Ne.symm (by assumption)
  | ((refine' ne_of_none ?ha ?hb); (case hb => assumption); (case ha => walk_at "hp")) | ((refine' Ne.symm (ne_of_none ?ha ?hb)); (case hb => assumption); (case ha => walk_at "hp")))
/-- what a dict tells -/
local macro_rules | `(tactic| walk_at "dg") => `(tactic| first | assumption)
/-- a length -/
local macro_rules | `(tactic| walk_at "sz") => `(tactic| first | (show _ ≤ sizeLine; decide) | (show _ < sizeLine; decide) | assumption | exact szlt (by simp) | exact szle (by simp))
/-- a list or tuple that stands -/
local macro_rules | `(tactic| walk_at "lk") => `(tactic| first | assumption | exact SqL.of (by assumption) | exact SqT.of (by assumption) | exact SqL.of upd_same | exact SqT.of upd_same | (refine' FzL.sq ?hm; (case hm => walk_at "fz")))
/-- a list that nobody writes -/
local macro_rules | `(tactic| walk_at "fz") => `(tactic| first | assumption | ((refine' FzL.uw ?hm ?hx); (case hx => walk_at "hp"); (case hm => walk_at "fz")) | ((refine' FzL.nw ?hm ?hx); (case hx => assumption); (case hm => walk_at "fz")))
/-- as far as it goes by itself -/
local macro_rules | `(tactic| walk_at "g") => `(tactic| repeat walk_at "g1")
/-- the body's reading, its places in short -/
local macro_rules | `(tactic| walk_at "go") => `(tactic| ((try dsimp only [cxOf, Cx.nox, Cx.wish]); walk_at "g"))
namespace K3
open PySem PySem.Spec PyProof.Rows L2 Bq
section
variable {P : Program} {w : World} {K : PySem.W.Frag} {mg : Str → Option Value} {base : Heap}
/-- further steps: dicts written, tuples taken apart -/
local macro_rules | `(tactic| walk_at "g1") => `(tactic| first
  | with_reducible refine' g_sdput ?_
  | ((with_reducible refine' g_gtup ?hs ?hl ?_); (case hs => walk_at "lk"); (case hl => rfl))
  | with_reducible refine' g_gcons ?_
  | with_reducible refine' g_gnil ?_
  | with_reducible refine' And.intro (Eq.refl V.non) ?_
  | with_reducible refine' g_isN ?_
  | ((with_reducible refine' g_chainR ?ha ?hb ?hc ?_); (case ha => intro R q; walk_at "g"; exact q); (case hb => intro R q; walk_at "g"; exact q); (case hc => intro R q; walk_at "g"; exact q))
  | with_reducible refine' g_notN ?_)
/-- what the law's dict tells -/
local macro_rules | `(tactic| walk_at "dg") => `(tactic| first
  | assumption
  | exact LH.gfuns (by assumption)
  | exact LH.gsaid (by assumption)
  | exact LH.gcells (by assumption)
  | exact LH.gfuel (by assumption)
  | exact LH.gend (by assumption)
  | exact LH.gcalls (by assumption)
  | exact LH.gnames (by assumption)
  | exact LH.gwaits (by assumption)
  | exact LH.gworth (by assumption)
  | exact LH.glook (by assumption))
/-- a test that fails, that holds, by itself -/
local macro_rules | `(tactic| walk_at "no") => `(tactic| ((refine tkF rfl ?_); walk_at "g"))
local macro_rules | `(tactic| walk_at "yes") => `(tactic| ((refine tkT rfl ?_); walk_at "g"))
/-! ### deeds done -/
theorem thing1 {H : Hp} {v : V} {t : Th} (r : Rep K H v (encT t)) : ∃ a us, v = .ref a ∧ SqT K H a (.str (wdT t) :: us) ∧ Reps K H us (restT t) := by
  rw [encT_eq] at r
  obtain ⟨a, vs, rfl, hS, rs⟩ := r.tupI
  obtain ⟨v0, us, rfl, r0, rs2⟩ := rs.consI
  obtain rfl := r0.strI
  exact ⟨a, us, rfl, hS, rs2⟩
theorem iv1 {ws : List Int} {v : Int} (h : ws.length + 1 = 1) : iv (ws ++ [v]) = [.int v] := by
  cases ws with
  | nil => rfl
  | cons a r => simp at h
theorem iv2 {ws : List Int} {v : Int} (h : ws.length + 1 = 2) : ∃ a, ws = [a] ∧ iv (ws ++ [v]) = [.int a, .int v] := by
  cases ws with
  | nil => simp at h
  | cons a r => cases r with
    | nil => exact ⟨a, rfl, rfl⟩
    | cons b r => simp at h
theorem nil1 {ws : List Int} (h : ws.length + 1 = 1) : ws = [] := by
  cases ws with
  | nil => rfl
  | cons a r => simp at h
theorem setL_nat {H : Hp} {p : Addr} {xs : List V} {j : Nat} {v : V} {R : Hp → Prop} (h : H p = some (.lst xs)) (hj : j < xs.length) (q : R (upd H p (.lst (xs.set j v)))) : rSetL (.ref p) (.int (j : Nat)) v H R :=
  ⟨p, xs, _, j, rfl, rfl, h, Evl.ixN_nat hj, q⟩
theorem iv_set (l : List Int) (j : Nat) (v : Int) : iv (l.set j v) = (iv l).set j (.int v) := by
  unfold iv
  rw [List.map_set]
def spDone (K : PySem.W.Frag) : Sp := fun vs H Q _ => ∃ H0 wa x tw tv d ws w s ps, ∃ sd ce fu ca nm, ∃ fs : List Fu, vs = [.ref wa, tv, .ref tw] ∧ LB K H0 H wa fs x ⟨sd, ce, fu, ca, nm, .give w (.deed d ws s)⟩ ∧ WfSt ps ⟨sd, ce, fu, ca, nm, .give w (.deed d ws s)⟩ ∧
  sd.length + left ⟨sd, ce, fu, ca, nm, .give w (.deed d ws s)⟩ ≤ 4000000 ∧ x.wo = .non ∧ x.lk = .non ∧ encD K H s x.ws x.bs ∧ Rep K H tv (encDd d) ∧ SqT K H tw (iv (ws ++ [w])) ∧ ws.length + 1 = (innerD d).length ∧
  (∀ H' x' st', Step fs ⟨sd, ce, fu, ca, nm, .give w (.deed d ws s)⟩ st' → LS K H0 H' wa fs x' st' → Q .non H') ∧
  ∀ H' x' fi, Ends fs ⟨sd, ce, fu, ca, nm, .give w (.deed d ws s)⟩ fi → LE K H0 H' wa x' fi → Q .non H'
theorem fn_done (C : Cn w K mg base) : Fn P w K mg base CX0 3 "_law_deed_done" ["_law_w", "_law_deed_here", "_law_worths"] (spDone K) := C.f_law_deed_done fun fd F => by
  have F_law_goes : Fn P w K mg base CX0 2 "_law_goes" ["_law_w"] (spGoes K) := fn_goes C
  refine F.ok (CX := CX0) sc_law_deed_done (fun vs H Q E h => ?_) (fun cdv A outer s H vs Q E hr h => ?_)
  · obtain ⟨H0, wa, x, tw, tv, d, ws, w, s, ps, sd, ce, fu, ca, nm, fs, rfl, _⟩ := h
    rfl
  · obtain ⟨H0, wa, x, tw, tv, d, ws, wv, s, ps, sd, ce, fu, ca, nm, fs, rfl, b, wf, hsz, ewo, elk, he, rv, hw, hl, q1, q2⟩ := h
    have hu := hu_of (rmm (j := 1) hr)
    have hu0 : ∀ {A : Around}, A.units + 1 < cLine → A.units < cLine := fun h => by omega
    replace hu0 := hu0 hu
    refine ⟨_, PSs.nox (pss_cons (ps_set (i := 3) sc_law_deed_done.nd rfl (Or.inl rfl) (pe_ix ix_tup (pv 1) pe_int (fun _ _ => rfl)))
      (pss_one (ps_if (pt_cmpR op_eq (pv 3) pe_str (nomark _)) (pss_one (ps_asg (pe_ix ix_tup (pv 2) pe_int (fun _ _ => rfl)) (pg_sub (pe_dget hu (pv 0) pe_str (fun _ _ => rfl)) (pe_ix ix_tup (pv 1) pe_int (fun _ _ => rfl)) set_list))) (pss_one (ps_if (PW.pt (pw_and (pt_cmpR op_eq (pv 3) pe_str (nomark _)) (pw_and1 (pt_not (pt_chain op_le op_lt pe_int (pe_ix ix_tup (pv 2) pe_int (fun _ _ => rfl)) pe_int))))) (pss_one (ps_dput hu (pv 0) pe_str (pe_tupC (pa_cons pe_str (pa_cons pe_str pa_nil))) rfl)) (pss_one (ps_if (pt_cmpR op_eq (pv 3) pe_str (nomark _)) (pss_one (ps_asg (pe_ix ix_tup (pv 2) pe_int (fun _ _ => rfl)) (pg_sub (pe_dget hu (pv 0) pe_str (fun _ _ => rfl)) (pe_ix ix_tup (pv 2) pe_int (fun _ _ => rfl)) set_list))) (pss_one (ps_if (pt_cmpR op_eq (pv 3) pe_str (nomark _)) (pss_one (ps_expr (pe_bm PySem.F.plainAttrs_list PySem.F.slot_list_append PySem.F.type_list_append mt_append (pe_dget hu (pv 0) pe_str (fun _ _ => rfl)) (pa_cons (pe_ix ix_tup (pv 2) pe_int (fun _ _ => rfl)) pa_nil)))) (pss_one (ps_if (pt_cmpR op_eq (pv 3) pe_str (nomark _)) (pss_one (ps_expr (pe_bm PySem.F.plainAttrs_list PySem.F.slot_list_append PySem.F.type_list_append mt_append (pe_dget hu (pv 0) pe_str (fun _ _ => rfl)) (pa_cons (pe_tupC (pa_cons pe_str (pa_cons (pe_ix ix_tup (pv 1) (pe_op op_sub pe_int (pe_callTy call_int1 (by rfl) (C.m_int) (by decide +kernel) (pa_cons (pe_cmpR op_ne (pe_ix ix_tup (pv 2) pe_int (fun _ _ => rfl)) pe_int (nomark _)) pa_nil))) (fun _ _ => rfl)) (pa_cons pe_int pa_nil)))) pa_nil)))) (pss_one (ps_if (PW.pt (pw_and (pt_cmpR op_eq (pv 3) pe_str (nomark _)) (pw_and (pt_cmpR op_ne (pe_ix ix_tup (pv 2) pe_int (fun _ _ => rfl)) pe_int (nomark _)) (pw_and1 (pt_val (pe_fn F_law_goes (rmm hr) (by rfl) pass0 (pa_cons (pv 0) pa_nil))))))) (pss_one (ps_dput hu (pv 0) pe_str (pe_op op_catL (pe_dget hu (pv 0) pe_str (fun _ _ => rfl)) (pe_lstC (pa_cons (pe_tupC (pa_cons pe_str (pa_cons (pv 1) (pa_cons pe_int pa_nil)))) (pa_cons (pe_tupC (pa_cons pe_str (pa_cons (pe_ix ix_tup (pv 1) pe_int (fun _ _ => rfl)) (pa_cons pe_int pa_nil)))) pa_nil)))) rfl)) (pss_one (ps_if (pt_cmpR op_eq (pv 3) pe_str (nomark _)) (pss_cons (ps_while PassesOwn.never (pt_mid (PW.pt (pw_and (pt_cmpR (op_neNil hu0) (pe_dget hu (pv 0) pe_str (fun _ _ => rfl)) (pe_lstC pa_nil) (nomark _)) (pw_and1 (pt_cmpR op_ne (pe_ix ix_tup (pe_ix ix_list (pe_dget hu (pv 0) pe_str (fun _ _ => rfl)) (pe_un un_neg pe_int) (fun _ _ => rfl)) pe_int (fun _ _ => rfl)) pe_str (nomark _)))))) (pss_one (ps_expr (pe_bm0 PySem.F.plainAttrs_list PySem.F.slot_list_pop PySem.F.type_list_pop mt_pop (pe_dget hu (pv 0) pe_str (fun _ _ => rfl))))))
      (pss_one (ps_dput hu (pv 0) pe_str (pe_ix ix_tup (pv 2) pe_int (fun _ _ => rfl)) rfl))) pss_nil))))))))))))))), ?_⟩
    have lws : x.ws.length ≤ 4000000 := by
      have h1 := encD_len he
      simp only [left, cC, cV] at hsz
      omega
    obtain ⟨h, rfu, esd, ecs, efl, ecl, enm, een⟩ := b
    simp only at esd ecs efl ecl enm
    obtain ⟨a, us, rfl, hS, rs⟩ := thing1 (t := .d d) rv
    have c := wf.c
    have wce : ce.length = 64 := wf.ce
    have h0 := atI_nat (j := 0) (List.getElem?_cons_zero (a := V.str (wdT (.d d))) (l := us))
    cases d with
    | set i p =>
      obtain ⟨v1, us, rfl, r1, rs⟩ := rs.consI
      obtain ⟨v2, us, rfl, r2, rs⟩ := rs.consI
      obtain rfl := rs.nilI
      obtain rfl := r1.intI
      rw [iv1 hl] at hw
      obtain rfl := nil1 hl
      walk_at "go"
      refine tkT rfl ?_
      have hi : i < (iv x.nm).length := by rw [iv_len, enm]; exact c.2.2.1.1
      walk_at "g"
      refine setL_nat h.hn hi ?_
      rw [← iv_set]
      have h1 := h.name (x.nm.set i wv)
      have k1 : Kt K H (upd H x.na (.lst (iv (x.nm.set i wv)))) := (Ch.wr (S := [x.na]) h.hn rfl (by simp)).kt
      generalize upd H x.na (.lst (iv (x.nm.set i wv))) = H1 at h1 k1 ⊢
      walk_at "g"
      exact q1 H1 _ _ .set ⟨⟨h1, rfu.kt k1, esd, ecs, efl, ecl, by rw [← enm], een⟩, ⟨elk, ewo, encD_kt k1 he⟩⟩
    | put p q =>
      obtain ⟨v1, us, rfl, r1, rs⟩ := rs.consI
      obtain ⟨v2, us, rfl, r2, rs⟩ := rs.consI
      obtain rfl := rs.nilI
      obtain ⟨i, rfl, ei⟩ := iv2 (v := wv) hl
      rw [ei] at hw
      walk_at "go"
      walk_at "no"
      refine iteB (fun hc => ?_) (fun hc => ?_)
      · have hc2 : i < 0 ∨ 64 ≤ i := by simpa [wdT] using hc
        have hc' : ¬ (0 ≤ i ∧ i < 64) := by omega
        walk_at "g"
        refine ⟨szle (by simp), fun t H2 _ e2 c2 => ?_⟩
        have h2 := h.ch c2
        walk_at "g"
        refine g_dput { x with en := .ref t } h2 (h2.put _) fun H3 k3 h3 => ?_
        exact q2 H3 _ _ (.put hc') ⟨h3, esd, ecs, t, rfl, k3.t _ _ (SqT.of e2)⟩
      · have hc' : 0 ≤ i ∧ i < 64 := by simpa [wdT] using hc
        obtain ⟨j, rfl⟩ : ∃ j : Nat, i = (j : Nat) := ⟨i.toNat, by omega⟩
        walk_at "g"
        refine tkT rfl ?_
        have hi : j < (iv x.cs).length := by rw [iv_len, ecs, wce]; omega
        walk_at "g"
        refine setL_nat h.hc hi ?_
        rw [← iv_set]
        have h1 := h.cell (x.cs.set j wv)
        have k1 : Kt K H (upd H x.ce (.lst (iv (x.cs.set j wv)))) := (Ch.wr (S := [x.ce]) h.hc rfl (by simp)).kt
        generalize upd H x.ce (.lst (iv (x.cs.set j wv))) = H1 at h1 k1 ⊢
        walk_at "g"
        exact q1 H1 _ _ (.put hc'.1 hc'.2) ⟨⟨h1, rfu.kt k1, esd, by simp only [ecs, Int.toNat_natCast], efl, ecl, enm, een⟩, ⟨elk, ewo, encD_kt k1 he⟩⟩
    | say p =>
      obtain ⟨v1, us, rfl, r1, rs⟩ := rs.consI
      obtain rfl := rs.nilI
      rw [iv1 hl] at hw
      obtain rfl := nil1 hl
      walk_at "go"
      walk_at "no"
      walk_at "no"
      walk_at "no"
      refine tkT rfl ?_
      have ls : x.sd.length ≤ 4000000 := by rw [esd]; omega
      walk_at "g"
      refine ⟨.inl ⟨rfl, _, SqL.of h.hs⟩, ?_⟩
      walk_at "g"
      refine g_app h.hs (szm (by rw [iv_len]; omega)) ?_
      have e1 : iv x.sd ++ [V.int wv] = iv (x.sd ++ [wv]) := by rw [iv_app]; rfl
      rw [e1]
      have h1 := h.said (x.sd ++ [wv])
      have k1 : Kt K H (upd H x.sa (.lst (iv (x.sd ++ [wv])))) := (Ch.wr (S := [x.sa]) h.hs rfl (by simp)).kt
      generalize upd H x.sa (.lst (iv (x.sd ++ [wv]))) = H1 at h1 k1 ⊢
      walk_at "g"
      exact q1 H1 _ _ .say ⟨⟨h1, rfu.kt k1, by rw [← esd], ecs, efl, ecl, enm, een⟩, ⟨elk, ewo, encD_kt k1 he⟩⟩
    | ite p ba bb =>
      obtain ⟨v1, us, rfl, r1, rs⟩ := rs.consI
      obtain ⟨v2, us, rfl, r2, rs⟩ := rs.consI
      obtain ⟨v3, us, rfl, r3, rs⟩ := rs.consI
      obtain rfl := rs.nilI
      rw [iv1 hl] at hw
      obtain rfl := nil1 hl
      walk_at "go"
      walk_at "no"
      walk_at "no"
      walk_at "no"
      walk_at "no"
      refine tkT rfl ?_
      walk_at "g"
      refine ⟨.inl ⟨rfl, _, SqL.of h.hw⟩, ?_⟩
      walk_at "g"
      obtain ⟨vb, hvb, rvb⟩ : ∃ vb, atI [V.str (wdT (.d (.ite p ba bb))), v1, v2, v3] (3 - if (!decide (V.int wv = V.int 0)) = true then 1 else 0) = some vb ∧ Rep K H vb (.tup (encB (if wv = 0 then bb else ba))) := by
        by_cases e : wv = 0
        · subst e
          exact ⟨v3, rfl, r3⟩
        · refine ⟨v2, ?_, by rw [if_neg e]; exact r2⟩
          have : decide (V.int wv = V.int 0) = false := decide_eq_false (fun z => e (by injection z))
          rw [this]
          rfl
      walk_at "g"
      refine ⟨szle (by simp), fun t H2 _ e2 c2 => ?_⟩
      have h2 := h.ch c2
      walk_at "g"
      refine g_app h2.hw (szm (by omega)) ?_
      have h3 := h2.wait (x.ws ++ [.ref t])
      have k3 : Kt K H2 (upd H2 x.wt (.lst (x.ws ++ [.ref t]))) := (Ch.wr (S := [x.wt]) h2.hw rfl (by simp)).kt
      generalize upd H2 x.wt (.lst (x.ws ++ [.ref t])) = H3 at h3 k3 ⊢
      have kk := c2.kt.trans k3
      walk_at "g"
      exact q1 H3 _ _ .ite ⟨⟨h3, rfu.kt kk, esd, ecs, efl, ecl, enm, een⟩, ⟨elk, ewo, _, _, rfl, ⟨t, vb, rfl, k3.t _ _ (SqT.of e2), rvb.kt kk⟩, encD_kt kk he⟩⟩
    | whl p bb =>
      obtain ⟨v1, us, rfl, r1, rs⟩ := rs.consI
      obtain ⟨v2, us, rfl, r2, rs⟩ := rs.consI
      obtain rfl := rs.nilI
      rw [iv1 hl] at hw
      obtain rfl := nil1 hl
      walk_at "go"
      walk_at "no"
      walk_at "no"
      walk_at "no"
      walk_at "no"
      walk_at "no"
      walk_at "yes"
      refine iteB (fun hc => ?_) (fun hc => ?_)
      · have hc' : wv ≠ 0 := fun z => by rw [z] at hc; cases hc
        walk_at "g"
        refine ⟨H0, wa, x, fu, rfl, h, efl, fun H1 n en k1 h1 => ?_, fun H1 t e k1 h1 s1 => ?_⟩
        · walk_at "g"
          walk_at "yes"
          have hS1 := k1.t _ _ hS
          refine ⟨szle (by simp), fun t2 H2 _ e2 c2 => ?_⟩
          have hS2 := c2.kt.t _ _ hS1
          walk_at "g"
          refine ⟨szle (by simp), fun t3 H3 _ e3 c3 => ?_⟩
          walk_at "g"
          refine ⟨szle (by simp), fun t4 H4 _ e4 c4 => ?_⟩
          walk_at "g"
          have h4 := h1.ch (c2.trans (c3.trans c4))
          refine ⟨_, _, _, _, rfl, rfl, h4.hw, e4, szl (by simp; omega), fun t5 H5 n5 e5 c5 => ?_⟩
          have h5 := h4.ch c5
          walk_at "g"
          refine g_dput { x with fl := (n : Nat), wt := t5, ws := x.ws ++ [.ref t2, .ref t3] } h5 (h5.wait2 e5 (h4.new n5) (h4.c.free n5 (by simp))) fun H6 k6 h6 => ?_
          have k36 := c4.kt.trans (c5.kt.trans k6)
          have k26 := c3.kt.trans k36
          have k6 := k1.trans (c2.kt.trans k26)
          walk_at "g"
          subst en
          have rv' : Rep K H6 (.ref a) (encDd (.whl p bb)) := rv.kt k6
          refine q1 H6 _ _ (.whl hc') ⟨⟨h6, rfu.kt k6, esd, ecs, rfl, ecl, enm, een⟩, ⟨elk, ewo, x.ws ++ [.ref t2], .ref t3, by simp, ⟨t3, v2, rfl, k36.t _ _ (SqT.of e3), r2.kt k6⟩, x.ws, .ref t2, rfl, ⟨t2, .ref a, rfl, k26.t _ _ (SqT.of e2), rv'⟩, encD_kt k6 he⟩⟩
        · walk_at "g"
          walk_at "no"
          walk_at "no"
          subst e
          exact q2 H1 _ _ (.longW hc') ⟨h1, esd, ecs, t, rfl, s1⟩
      · have hc' : wv = 0 := by
          have := of_decide_eq_true (by simpa using hc : decide (V.int wv = V.int 0) = true)
          injection this
        subst hc'
        walk_at "no"
        walk_at "no"
        exact q1 H _ _ .whl0 ⟨⟨h, rfu, esd, ecs, efl, ecl, enm, een⟩, ⟨elk, ewo, he⟩⟩
    | ret p =>
      obtain ⟨v1, us, rfl, r1, rs⟩ := rs.consI
      obtain rfl := rs.nilI
      rw [iv1 hl] at hw
      obtain rfl := nil1 hl
      walk_at "go"
      walk_at "no"
      walk_at "no"
      walk_at "no"
      walk_at "no"
      walk_at "no"
      walk_at "no"
      walk_at "no"
      walk_at "yes"
      have fin : ∀ {σ : L2.St} {H1 : Hp} {l : List V}, σ[0]? = some (some (.ref wa)) → σ[2]? = some (some (.ref tw)) → Kt K H H1 → LH K H0 H1 wa { x with ws := l } → encD K H1 (popB s) l x.bs →
          sDPut (tVar 0) (tC (V.str (Str.ofString "worth"))) (tOp (rIxT K) (tVar 2) (tC (V.int 0))) { nx := fun x H' => Q V.non H', rt := Q } σ H1 := by
        intro σ H1 l s0 s2 k1 h1 e1
        have hw1 := k1.t _ _ hw
        refine g_sdput (g_op (g_var s2 (g_c (g_ixT hw1 rfl (g_var s0 (g_c ?_))))))
        refine g_dput { x with ws := l, wo := .int wv } h1 (h1.put _) fun H2 k2 h2 => ?_
        have kk := k1.trans k2
        exact q1 H2 _ _ .ret ⟨⟨h2, rfu.kt kk, esd, ecs, efl, ecl, enm, een⟩, ⟨elk, rfl, encD_kt k2 e1⟩⟩
      refine g_while ⟨fun m σ' H' => ∃ s' l, σ' = (List.set (L2.start ["_law_w", "_law_deed_here", "_law_worths", "_law_word"] [V.ref wa, V.ref a, V.ref tw]) 3 (some (V.str (wdT (Th.d (Dd.ret p)))))) ∧ m = l.length ∧ Kt K H H' ∧
        LH K H0 H' wa { x with ws := l } ∧ encD K H' s' l x.bs ∧ popB s' = popB s, ⟨_, s, x.ws, rfl, rfl, (Ch.refl (S := [])).kt, h, he, rfl⟩, ?_⟩
      rintro m σ' H1 ⟨s', l, rfl, rfl, k1, h1, e1, ep⟩
      have hcut : ∀ (s' : DS) (l : List V), encD K H1 s' l x.bs → LH K H0 H1 wa { x with ws := l } → (l = [] ∧ s' = .nil) ∨ ∃ ys v a us r, l = ys ++ [v] ∧ v = .ref a ∧ ∃ wd : Str, SqT K H1 a (.str wd :: us) ∧ us.length = 2 ∧ ((wd = "back" ∧ flat s') ∨ ((wd = "body" ∨ wd = "again") ∧ popB r = popB s' ∧ encD K H1 r ys x.bs)) := by
        intro s' l e _
        cases s' with
        | nil => exact .inl ⟨e.1, rfl⟩
        | back ns r =>
          obtain ⟨ys, v, na, bs', rfl, ⟨a, rfl, hb⟩, eb, er⟩ := e
          exact .inr ⟨ys, _, a, _, .nil, rfl, rfl, "back", hb, rfl, .inl ⟨rfl, trivial⟩⟩
        | body bb i r =>
          obtain ⟨ys, v, rfl, ⟨a, v1, rfl, hb, _⟩, er⟩ := e
          exact .inr ⟨ys, _, a, _, r, rfl, rfl, "body", hb, rfl, .inr ⟨.inl rfl, rfl, er⟩⟩
        | again pp bb r =>
          obtain ⟨ys, v, rfl, ⟨a, v1, rfl, hb, _⟩, er⟩ := e
          exact .inr ⟨ys, _, a, _, r, rfl, rfl, "again", hb, rfl, .inr ⟨.inr rfl, rfl, er⟩⟩
      have flat_pop : ∀ s : DS, flat s → popB s = s := fun s h => by cases s <;> first | rfl | exact h.elim
      have c1 := hcut s' l e1 h1
      walk_at "g"
      refine g_mid (fun b H' => Kt K H1 H' ∧ LH K H0 H' wa { x with ws := l } ∧ ((b = false ∧ flat s') ∨ (b = true ∧ ∃ ys v r, l = ys ++ [v] ∧ popB r = popB s' ∧ encD K H1 r ys x.bs))) ?_ ?_
      · walk_at "g"
        refine ⟨szle (by simp), fun t2 H2 _ e2 c2 => ?_⟩
        have h2 := h1.ch c2
        have hw2 : SqL K H2 x.wt l := SqL.of h2.hw
        walk_at "g"
        rcases c1 with ⟨rfl, rfl⟩ | ⟨ys, v, a', us, r, rfl, rfl, wd, hb, lu, c1⟩
        · refine tkF rfl ?_
          exact ⟨c2.kt, h2, .inl ⟨rfl, trivial⟩⟩
        · refine tkT (by simp) ?_
          have hb2 := c2.kt.t _ _ hb
          have hl := atI_last ys (V.ref a')
          have hat : atI (V.str wd :: us) 0 = some (V.str wd) := atI_nat (j := 0) rfl
          walk_at "g"
          rcases c1 with ⟨rfl, hf⟩ | ⟨hw', ep', er⟩
          · exact ⟨c2.kt, h2, .inl ⟨rfl, hf⟩⟩
          · refine ⟨c2.kt, h2, .inr ⟨?_, ys, _, r, rfl, ep', er⟩⟩
            rcases hw' with rfl | rfl <;> rfl
      · rintro bb H2 ⟨k2, h2, ⟨rfl, hf⟩ | ⟨rfl, ys, v, r, rfl, ep', er⟩⟩
        · refine tkF rfl ?_
          refine fin (σ := List.set (L2.start ["_law_w", "_law_deed_here", "_law_worths", "_law_word"] [V.ref wa, V.ref a, V.ref tw]) 3 (some (V.str (wdT (Th.d (Dd.ret p)))))) rfl rfl (k1.trans k2) h2 ?_
          rw [← ep, flat_pop _ hf]
          exact encD_kt k2 e1
        · refine tkT rfl ⟨_, fun σ' H' h => h, ?_⟩
          walk_at "g"
          refine ⟨.inl ⟨rfl, _, SqL.of h2.hw⟩, ?_⟩
          refine ⟨_, _, v, rfl, rfl, h2.hw, by simp, ?_⟩
          rw [List.dropLast_concat]
          have h3 := h2.wait ys
          have k3 : Kt K H2 (upd H2 x.wt (.lst ys)) := (Ch.wr (S := [x.wt]) h2.hw rfl (by simp)).kt
          generalize upd H2 x.wt (.lst ys) = H3 at h3 k3 ⊢
          walk_at "g"
          exact ⟨ys.length, by simp, r, ys, rfl, rfl, k1.trans (k2.trans k3), h3, encD_kt (k2.trans k3) er, ep'.trans ep⟩
    | dop p =>
      obtain ⟨v1, us, rfl, r1, rs⟩ := rs.consI
      obtain rfl := rs.nilI
      rw [iv1 hl] at hw
      obtain rfl := nil1 hl
      walk_at "go"
      walk_at "no"
      walk_at "no"
      walk_at "no"
      walk_at "no"
      walk_at "no"
      walk_at "no"
      walk_at "no"
      walk_at "no"
      exact q1 H _ _ .dop ⟨⟨h, rfu, esd, ecs, efl, ecl, enm, een⟩, ⟨elk, ewo, he⟩⟩
end
end K3
end

section
set_option maxRecDepth 100000
set_option maxHeartbeats 1000000
open Bq L2
/-- one step of a reading; what is left are side goals and places to think -/
local macro_rules | `(tactic| walk_at "g1") => `(tactic| first
  | with_reducible refine' g_seq ?_ | with_reducible refine' g_asg ?_ | with_reducible refine' g_drop ?_ | with_reducible refine' g_ret ?_ | with_reducible refine' g_ifS ?_ | with_reducible refine' g_asgG ?_
  | ((with_reducible refine' g_var ?hv ?_); (case hv => rfl))
  | with_reducible refine' g_c ?_ | with_reducible refine' g_op ?_ | with_reducible refine' g_un ?_ | with_reducible refine' g_I0 ?_ | with_reducible refine' g_U ?_
  | with_reducible refine' g_test ?_ | with_reducible refine' g_tB ?_ | with_reducible refine Exists.intro _ (And.intro rfl ?_) 
  | ((with_reducible refine' g_andP ?ha ?hb ?_); (case ha => intro R q; walk_at "g"; exact q); (case hb => intro R q; walk_at "g"; exact q))
  | ((with_reducible refine' g_orP ?ha ?hb ?_); (case ha => intro R q; walk_at "g"; exact q); (case hb => intro R q; walk_at "g"; exact q))
  | with_reducible refine' g_and ?_ | with_reducible refine' g_or ?_ | with_reducible refine' g_not ?_
  | with_reducible refine' g_andV ?_ | with_reducible refine' g_orV ?_ | with_reducible refine' g_notV ?_ | with_reducible refine' g_if ?_ | with_reducible refine' g_nil ?_ | with_reducible refine' g_cons ?_
  | with_reducible refine' g_tup ?_ | with_reducible refine' g_lst ?_ | with_reducible refine' g_CB ?_ | with_reducible refine' g_Fn ?_ | with_reducible refine' g_next ?_ | with_reducible refine' g_retN ?_
  | with_reducible refine' g_name ?_ | with_reducible refine' g_sub ?_
  | ((with_reducible refine' g_ixL ?hs ?he ?_); (case hs => walk_at "lk"); (case he => walk_at "at"))
  | ((with_reducible refine' g_ixT ?hs ?he ?_); (case hs => walk_at "lk"); (case he => walk_at "at"))
  | ((with_reducible refine' g_setL ?hs ?he ?_); (case hs => walk_at "hp"); (case he => rfl))
  | ((with_reducible refine' g_app ?hs ?hz ?_); (case hs => walk_at "hp"); (case hz => walk_at "sz"))
  | ((with_reducible refine' ⟨_, _, rfl, Or.inl ?hs, ?_⟩); (case hs => walk_at "lk"))
  | ((with_reducible refine' ⟨_, _, rfl, Or.inr ?hs, ?_⟩); (case hs => walk_at "lk"))
  | with_reducible refine' g_BM ?_ | with_reducible refine' g_BM0 ?_ | ((with_reducible refine' g_tyL ?hs ?_); (case hs => walk_at "lk"))
  | with_reducible refine' g_sl ?_ | with_reducible refine' g_noPart ?_ | with_reducible refine' g_part ?_
  | ((with_reducible refine' g_inT ?hs ?fx ?fs ?_); (case hs => walk_at "lk"); (case fx => rfl); (case fs => rfl))
  | with_reducible refine' g_pair ?_ | with_reducible refine' g_pair0 ?_ | with_reducible refine' g_disp ?_
  | with_reducible refine' g_for ?_ | with_reducible refine' g_tupC ?_ | with_reducible refine' g_lstC ?_ | ((with_reducible refine' g_lens ?_)) | with_reducible refine' g_dg ?_ | with_reducible refine' g_lc ?_ | with_reducible refine' g_rng1 ?_ | with_reducible refine' g_ilist ?_ | with_reducible refine' g_itup ?_
  | ((with_reducible refine' ⟨_, _, rfl, ?hd, ?_⟩); (case hd => walk_at "dg"))
  | ((with_reducible refine' g_eqNil ?hs ?hz ?_); (case hs => walk_at "lk"); (case hz => walk_at "lk"))
  | ((with_reducible refine' g_neNil ?hs ?hz ?_); (case hs => walk_at "lk"); (case hz => walk_at "lk"))
  | with_reducible refine Or.inl ⟨_, rfl, ?_⟩
  | with_reducible refine Or.inr ⟨_, rfl, ?_⟩
  | ((with_reducible refine' g_eq ?hs ?_); (case hs => rfl))
  | ((with_reducible refine' g_ne ?hs ?_); (case hs => rfl))
  | ((with_reducible refine' g_I ?hc ?_); (case hc => walk_at "ar")))
/-- arithmetic's side conditions -/
local macro_rules | `(tactic| walk_at "ar") => `(tactic| (first
  | (show (0 : Int) < _; first | omega | decide) | (show (0 : Int) < _ ∧ _; constructor <;> omega) | (show ¬ (_ : Int) = _; omega) | (show (_ : Int) ≠ _ ∧ _; constructor <;> omega)
  | (show (-(2 ^ 64) < _ ∧ _) ∨ _; (first | (left; constructor <;> omega) | (right; constructor <;> omega))) | (show (0 : Int) ≤ _ ∧ _ ∧ _; refine ⟨by omega, by omega, by decide⟩)))
/-- what stands at an index -/
local macro_rules | `(tactic| walk_at "at") => `(tactic| first | rfl | assumption)
/-- what stands at an address -/
local macro_rules | `(tactic| walk_at "hp") => `(tactic| first | assumption | exact upd_same | ((refine' Eq.trans (upd_ne ?hn) ?hm); (case hm => walk_at "hp"); (case hn => walk_at "ne")))
/-- two places are two -/
local macro_rules | `(tactic| walk_at "ne") => `(tactic| first
  | assumption | exact Ne.symm (by assumption)
  | ((refine' ne_of_none ?ha ?hb); (case hb => assumption); (case ha => walk_at "hp")) | ((refine' Ne.symm (ne_of_none ?ha ?hb)); (case hb => assumption); (case ha => walk_at "hp")))
/-- what a dict tells -/
local macro_rules | `(tactic| walk_at "dg") => `(tactic| first | assumption)
/-- a length -/
local macro_rules | `(tactic| walk_at "sz") => `(tactic| first | (show _ ≤ sizeLine; decide) | (show _ < sizeLine; decide) | assumption | exact szlt (by simp) | exact szle (by simp))
/-- a list or tuple that stands -/
local macro_rules | `(tactic| walk_at "lk") => `(tactic| first | assumption | exact SqL.of (by assumption) | exact SqT.of (by assumption) | exact SqL.of upd_same | exact SqT.of upd_same | (refine' FzL.sq ?hm; (case hm => walk_at "fz")))
/-- a list that nobody writes -/
local macro_rules | `(tactic| walk_at "fz") => `(tactic| first | assumption | ((refine' FzL.uw ?hm ?hx); (case hx => walk_at "hp"); (case hm => walk_at "fz")) | ((refine' FzL.nw ?hm ?hx); (case hx => assumption); (case hm => walk_at "fz")))
/-- as far as it goes by itself -/
local macro_rules | `(tactic| walk_at "g") => `(tactic| repeat walk_at "g1")
/-- the body's reading, its places in short -/
local macro_rules | `(tactic| walk_at "go") => `(tactic| ((try dsimp only [cxOf, Cx.nox, Cx.wish]); walk_at "g"))
namespace K3
open PySem PySem.Spec PyProof.Rows L2 Bq
section
variable {P : Program} {w : World} {K : PySem.W.Frag} {mg : Str → Option Value} {base : Heap}
/-- further steps: dicts written, tuples taken apart -/
local macro_rules | `(tactic| walk_at "g1") => `(tactic| first
  | with_reducible refine' g_sdput ?_
  | ((with_reducible refine' g_gtup ?hs ?hl ?_); (case hs => walk_at "lk"); (case hl => rfl))
  | with_reducible refine' g_gcons ?_
  | with_reducible refine' g_gnil ?_
  | with_reducible refine' And.intro (Eq.refl V.non) ?_
  | with_reducible refine' g_isN ?_
  | ((with_reducible refine' g_chainR ?ha ?hb ?hc ?_); (case ha => intro R q; walk_at "g"; exact q); (case hb => intro R q; walk_at "g"; exact q); (case hc => intro R q; walk_at "g"; exact q))
  | with_reducible refine' g_notN ?_)
/-- what the law's dict tells -/
local macro_rules | `(tactic| walk_at "dg") => `(tactic| first
  | assumption
  | exact LH.gfuns (by assumption)
  | exact LH.gsaid (by assumption)
  | exact LH.gcells (by assumption)
  | exact LH.gfuel (by assumption)
  | exact LH.gend (by assumption)
  | exact LH.gcalls (by assumption)
  | exact LH.gnames (by assumption)
  | exact LH.gwaits (by assumption)
  | exact LH.gworth (by assumption)
  | exact LH.glook (by assumption))
/-- a test that fails, that holds, by itself -/
local macro_rules | `(tactic| walk_at "no") => `(tactic| ((refine tkF rfl ?_); walk_at "g"))
local macro_rules | `(tactic| walk_at "yes") => `(tactic| ((refine tkT rfl ?_); walk_at "g"))
/-! ### a thing begun, or gone on with -/
def leafP : Pt → Bool
  | .num _ => true
  | .name _ => true
  | _ => false
inductive Bg : Bq.St → Th → List Int → Sum VS DS → Prop where
  | look {sd ce fu ca nm p s} (h : leafP p = false) : Bg ⟨sd, ce, fu, ca, nm, .look p s⟩ (.p p) [] (.inl s)
  | part {sd ce fu ca nm v p ws s} (h : ws.length < (innerP p).length) : Bg ⟨sd, ce, fu, ca, nm, .give v (.part p ws s)⟩ (.p p) (ws ++ [v]) (.inl s)
  | deed {sd ce fu ca nm v d ws s} (h : ws.length < (innerD d).length) : Bg ⟨sd, ce, fu, ca, nm, .give v (.deed d ws s)⟩ (.d d) (ws ++ [v]) (.inr s)
  | body {sd ce fu ca nm b i d s} (h : b[i]? = some d) : Bg ⟨sd, ce, fu, ca, nm, .go (.body b i s)⟩ (.d d) [] (.inr (.body b (i + 1) s))
  | again {sd ce fu ca nm p b s} : Bg ⟨sd, ce, fu, ca, nm, .go (.again p b s)⟩ (.d (.whl p b)) [] (.inr s)
def encR (K : PySem.W.Frag) (H : Hp) : Sum VS DS → List V → List (Addr × List Int) → Prop
  | .inl s => encV K H s
  | .inr s => encD K H s
theorem encR_kt {H H' : Hp} (k : Kt K H H') {r : Sum VS DS} {xs : List V} {bs : List (Addr × List Int)} (h : encR K H r xs bs) : encR K H' r xs bs := by
  cases r with
  | inl s => exact encV_kt k h
  | inr s => exact encD_kt k h
theorem Bg.len {st : Bq.St} {t : Th} {ws : List Int} {r : Sum VS DS} {H : Hp} {xs : List V} {bs : List (Addr × List Int)} (b : Bg st t ws r) (e : encR K H r xs bs) : xs.length ≤ left st + 1 := by
  cases b with
  | look h => have := encV_len e; simp only [left, cC]; omega
  | part h => have := encV_len e; simp only [left, cC, cV]; omega
  | deed h => have := encD_len e; simp only [left, cC, cV]; omega
  | @body _ _ _ _ _ b i _ s h =>
    have h1 := encD_len e
    have h2 := szB_drop h
    simp only [left, cC, cD] at h1 ⊢
    omega
  | again => have := encD_len e; simp only [left, cC, cD]; omega
theorem Bg.n8 {st : Bq.St} {t : Th} {ws : List Int} {r : Sum VS DS} {ps : List Nat} (b : Bg st t ws r) (w : WfSt ps st) {f : Nat} {qs : List Pt} (e : t = .p (.call f qs)) : ps[f]? = some qs.length := by
  cases b with
  | look h => cases e; exact w.c.1.1
  | part h => cases e; exact w.c.2.2.1.1
  | deed h => cases e
  | body h => cases e
  | again => cases e
/-- what a state with more to look at is -/
def nxt (t : Th) (ws : List Int) (q : Pt) : Sum VS DS → Ctl
  | .inl s => match t with
    | .p p => .look q (.part p ws s)
    | .d _ => .look q s
  | .inr s => match t with
    | .p _ => .go s
    | .d d => .look q (.deed d ws s)
theorem Bg.more {fs : List Fu} {st : Bq.St} {t : Th} {ws : List Int} {r : Sum VS DS} (b : Bg st t ws r) {q : Pt} (h : (innerT t)[ws.length]? = some q) : Step fs st { st with c := nxt t ws q r } := by
  cases b with
  | look _ => exact .first h
  | part _ => exact .next (by rw [List.length_append] at h; exact h)
  | deed _ => exact .nextD (by rw [List.length_append] at h; exact h)
  | body hb => exact .deed hb h
  | again =>
    simp only [innerT, innerD, List.length_nil, List.getElem?_cons_zero, Option.some.injEq] at h
    subst h
    exact .again
def spBegin (K : PySem.W.Frag) : Sp := fun vs H Q _ => ∃ H0 wa x tw tv t ws r ps st, ∃ fs : List Fu, vs = [.ref wa, tv, .ref tw] ∧ LB K H0 H wa fs x st ∧ WfSt ps st ∧ WfPs ps fs ∧ st.said.length + left st ≤ 4000000 ∧
  x.wo = .non ∧ x.lk = .non ∧ encR K H r x.ws x.bs ∧ Rep K H tv (encT t) ∧ SqT K H tw (iv ws) ∧ Bg st t ws r ∧
  (∀ H' x' st', Step fs st st' → LS K H0 H' wa fs x' st' → Q .non H') ∧ ∀ H' x' fi, Ends fs st fi → LE K H0 H' wa x' fi → Q .non H'
theorem encPs_len : ∀ ps : List Pt, (encPs ps).length = ps.length
  | [] => rfl
  | p :: r => congrArg (· + 1) (encPs_len r)
theorem encPs_get : ∀ {ps : List Pt} {n : Nat} {p : Pt}, ps[n]? = some p → (encPs ps)[n]? = some (encP p)
  | [], n, p, h => by simp at h
  | q :: r, 0, p, h => by simp at h; subst h; rfl
  | q :: r, n + 1, p, h => by
    have := encPs_get (ps := r) (n := n) (p := p) (by simpa using h)
    simpa [encPs] using this
theorem encP_ref {H : Hp} {v : V} {p : Pt} (r : Rep K H v (encP p)) : ∃ a, v = .ref a := by
  have r' : Rep K H v (encT (.p p)) := r
  obtain ⟨a, us, e, _⟩ := thing1 r'
  exact ⟨a, e⟩
theorem wd_deed (d : Dd) : inV (V.str (wdT (.d d))) [V.str "set", V.str "put", V.str "say", V.str "if", V.str "while", V.str "return", V.str "do"] = true := by cases d <;> rfl
theorem wd_part (p : Pt) : inV (V.str (wdT (.p p))) [V.str "set", V.str "put", V.str "say", V.str "if", V.str "while", V.str "return", V.str "do"] = false := by
  cases p with
  | bin op a b => cases op <;> rfl
  | _ => rfl
theorem fn_begin (C : Cn w K mg base) : Fn P w K mg base CX0 4 "_law_begin" ["_law_w", "_law_thing", "_law_worths"] (spBegin K) := C.f_law_begin fun fd F => by
  have F_law_inner : Fn P w K mg base CX0 2 "_law_inner" ["_law_thing"] (spInner K) := fn_inner C
  have F_law_deed_done : Fn P w K mg base CX0 3 "_law_deed_done" ["_law_w", "_law_deed_here", "_law_worths"] (spDone K) := fn_done C
  have F_law_call : Fn P w K mg base CX0 3 "_law_call" ["_law_w", "_law_thing", "_law_worths"] (spCall K) := fn_call C
  have F_law_pair : Fn P w K mg base CX0 2 "_law_pair" ["_law_word", "_law_one_here", "_law_other"] (spPair K) := fn_pair C
  refine F.ok (CX := CX0) sc_law_begin (fun vs H Q E h => ?_) (fun cdv A outer s H vs Q E hr h => ?_)
  · obtain ⟨H0, wa, x, tw, tv, t, ws, r, ps, st, fs, rfl, _⟩ := h
    rfl
  · obtain ⟨H0, wa, x, tw, tv, t, ws, r, ps, st, fs, rfl, b, wf, W, hsz, ewo, elk, he, rv, hw, bg, q1, q2⟩ := h
    have hu := hu_of (rmm (j := 1) hr)
    refine ⟨_, PSs.nox (pss_cons (ps_set (i := 3) sc_law_begin.nd rfl (Or.inl rfl) (pe_fn F_law_inner (rmm hr) (by rfl) pass0 (pa_cons (pv 1) pa_nil)))
      (pss_one (ps_if (pt_cmpR op_lt (pe_callB call_len_seq (by rfl) (C.m_len) PySem.boot_len (pa_cons (pv 2) pa_nil)) (pe_callB call_len_seq (by rfl) (C.m_len) PySem.boot_len (pa_cons (pv 3) pa_nil)) (nomark _)) (pss_cons (ps_expr (pe_bm PySem.F.plainAttrs_list PySem.F.slot_list_append PySem.F.type_list_append mt_append (pe_dget hu (pv 0) pe_str (fun _ _ => rfl)) (pa_cons (pe_tupC (pa_cons pe_str (pa_cons (pv 1) (pa_cons (pv 2) pa_nil)))) pa_nil)))
      (pss_one (ps_dput hu (pv 0) pe_str (pe_ix ix_list (pv 3) (pe_callB call_len_seq (by rfl) (C.m_len) PySem.boot_len (pa_cons (pv 2) pa_nil)) (fun _ _ => rfl)) rfl))) (pss_one (ps_if (pt_cmpR op_in_seq (pe_ix ix_tup (pv 1) pe_int (fun _ _ => rfl)) (pe_tupC (pa_cons pe_str (pa_cons pe_str (pa_cons pe_str (pa_cons pe_str (pa_cons pe_str (pa_cons pe_str (pa_cons pe_str pa_nil)))))))) (by rfl)) (pss_one (ps_expr (pe_fn F_law_deed_done (rmm hr) (by rfl) pass0 (pa_cons (pv 0) (pa_cons (pv 1) (pa_cons (pv 2) pa_nil)))))) (pss_one (ps_if (pt_cmpR op_eq (pe_ix ix_tup (pv 1) pe_int (fun _ _ => rfl)) pe_str (nomark _)) (pss_one (ps_expr (pe_fn F_law_call (rmm hr) (by rfl) pass0 (pa_cons (pv 0) (pa_cons (pv 1) (pa_cons (pv 2) pa_nil)))))) (pss_cons (ps_set (i := 4) sc_law_begin.nd rfl (Or.inl rfl) (pe_mid (pe_ifExp (pt_cmpR op_eq (pe_callB call_len_seq (by rfl) (C.m_len) PySem.boot_len (pa_cons (pv 2) pa_nil)) pe_int (nomark _)) (pe_fn F_law_pair (rmm hr) (by rfl) pass0 (pa_cons (pe_ix ix_tup (pv 1) pe_int (fun _ _ => rfl)) (pa_cons (pe_ix ix_tup (pv 2) pe_int (fun _ _ => rfl)) (pa_cons (pe_ix ix_tup (pv 2) pe_int (fun _ _ => rfl)) pa_nil)))) (pe_callTy call_int1 (by rfl) (C.m_int) (by decide +kernel) (pa_cons (pe_cmpR op_eq (pe_ix ix_tup (pv 2) pe_int (fun _ _ => rfl)) pe_int (nomark _)) pa_nil)))))
      (pss_cons (ps_if (pt_cmpR op_eq (pe_ix ix_tup (pv 1) pe_int (fun _ _ => rfl)) pe_str (nomark _)) (pss_one (ps_set (i := 4) sc_law_begin.nd rfl (Or.inl rfl) (pe_ifExp (pt_chain op_le op_lt pe_int (pe_ix ix_tup (pv 2) pe_int (fun _ _ => rfl)) pe_int) (pe_ix ix_list (pe_dget hu (pv 0) pe_str (fun _ _ => rfl)) (pe_ix ix_tup (pv 2) pe_int (fun _ _ => rfl)) (fun _ _ => rfl)) pe_str))) pss_nil)
      (pss_cons (ps_if (pt_val (pe_callB call_isi (by rfl) (C.m_isinstance) (by decide +kernel) (pa_cons (pv 4) (pa_cons (pe_bty "str" (by rfl) (C.m_str) (by decide +kernel)) pa_nil)))) (pss_one (ps_dput hu (pv 0) pe_str (pe_tupC (pa_cons pe_str (pa_cons (pv 4) pa_nil))) rfl)) pss_nil)
      (pss_one (ps_dput hu (pv 0) pe_str (pv 4) rfl)))))))))))), ?_⟩
    have lws : x.ws.length ≤ 4000000 + 1 := by
      have h1 := bg.len he
      omega
    walk_at "go"
    refine ⟨tv, t, rfl, rv, fun H1 l us c1 nl el rus => ?_⟩
    have h1 := b.h.ch c1
    have hw1 := c1.sqT hw
    have rv1 := rv.kt c1.kt
    have he1 := encR_kt c1.kt he
    have rfu1 := b.fu.kt c1.kt
    have hl1 : SqL K H1 l us := SqL.of el
    have lus : us.length = (innerT t).length := by rw [rus.len, encPs_len]
    obtain ⟨a, uv, rfl, hS1, rs1⟩ := thing1 rv1
    have h0 := atI_nat (j := 0) (List.getElem?_cons_zero (a := V.str (wdT t)) (l := uv))
    walk_at "g"
    refine iteB (fun hc => ?_) (fun hc => ?_)
    · have hc' : ws.length < (innerT t).length := by
        have := of_decide_eq_true hc
        rw [iv_len, lus] at this
        omega
      obtain ⟨q, hq⟩ : ∃ q, (innerT t)[ws.length]? = some q := ⟨_, List.getElem?_eq_getElem hc'⟩
      obtain ⟨v, hv, rq⟩ := rus.getT (encPs_get hq)
      walk_at "g"
      refine ⟨.inl ⟨rfl, _, SqL.of h1.hw⟩, ?_⟩
      walk_at "g"
      refine ⟨szle (by simp), fun t2 H2 _ e2 c2 => ?_⟩
      have h2 := h1.ch c2
      walk_at "g"
      refine g_app h2.hw (szm (by omega)) ?_
      have h3 := h2.wait (x.ws ++ [.ref t2])
      have k3 : Kt K H2 (upd H2 x.wt (.lst (x.ws ++ [.ref t2]))) := (Ch.wr (S := [x.wt]) h2.hw rfl (by simp)).kt
      have el3 : (upd H2 x.wt (.lst (x.ws ++ [.ref t2]))) l = some (.lst us) := by
        rw [upd_ne]
        · exact c2.up _ _ el (by simp)
        · intro z
          rw [z] at nl
          rw [b.h.hw] at nl
          cases nl
      generalize upd H2 x.wt (.lst (x.ws ++ [.ref t2])) = H3 at h3 k3 el3 ⊢
      have hw3 := (c2.kt.trans k3).t _ _ hw1
      have hl3 : SqL K H3 l us := SqL.of el3
      have hv' : atI us ((ws.length : Nat) : Int) = some v := atI_nat hv
      walk_at "g"
      rw [iv_len]
      walk_at "g"
      have kk := c2.kt.trans k3
      obtain ⟨va, rfl⟩ := encP_ref rq
      refine g_dput { x with ws := x.ws ++ [.ref t2], lk := .ref va } h3 (h3.put _) fun H4 k4 h4 => ?_
      have k14 := kk.trans k4
      have hth : IsThing K H4 (.ref t2) t ws := ⟨t2, .ref a, tw, rfl, (k3.trans k4).t _ _ (SqT.of e2), rv1.kt k14, (k14).t _ _ hw1⟩
      refine q1 H4 _ _ (bg.more hq) ⟨⟨h4, rfu1.kt k14, b.sd, b.cs, b.fl, b.cl, b.nm, b.en⟩, ?_⟩
      have he4 := encR_kt k14 he1
      have rq4 := rq.kt k14
      cases bg with
      | look _ => exact ⟨⟨va, rfl⟩, rq4, ewo, x.ws, _, rfl, hth, he4⟩
      | part _ => exact ⟨⟨va, rfl⟩, rq4, ewo, x.ws, _, rfl, hth, he4⟩
      | deed _ => exact ⟨⟨va, rfl⟩, rq4, ewo, x.ws, _, rfl, hth, he4⟩
      | body _ => exact ⟨⟨va, rfl⟩, rq4, ewo, x.ws, _, rfl, hth, he4⟩
      | again => exact ⟨⟨va, rfl⟩, rq4, ewo, x.ws, _, rfl, hth, he4⟩
    · have hc' : (innerT t).length ≤ ws.length := by
        have := of_decide_eq_false hc
        rw [iv_len, lus] at this
        omega
      walk_at "g"
      refine ⟨szle (by simp), fun t2 H2 _ e2 c2 => ?_⟩
      have h2 := h1.ch c2
      have hS2 := c2.sqT hS1
      have hw2 := c2.sqT hw1
      have he2 := encR_kt c2.kt he1
      have rfu2 := rfu1.kt c2.kt
      have rv2 := rv1.kt c2.kt
      have b2 : LB K H0 H2 wa fs x st := ⟨h2, rfu2, b.sd, b.cs, b.fl, b.cl, b.nm, b.en⟩
      cases bg with
      | look hlf =>
        rename_i sd ce fu ca nm p s
        simp only [List.length_nil, Nat.le_zero, List.length_eq_zero_iff] at hc'
        obtain ⟨f, rfl⟩ : ∃ f, p = .call f [] := by
          cases p with
          | num _ => cases hlf
          | name _ => cases hlf
          | call f qs => exact ⟨f, by rw [show qs = [] from hc']⟩
          | _ => simp [innerT, innerP] at hc'
        walk_at "g"
        refine tkF (wd_part _) ?_
        walk_at "g"
        refine tkT rfl ?_
        have hps : ps[f]? = some 0 := wf.c.1.1
        obtain ⟨fn, hfn, hp0⟩ : ∃ fn, fs[f]? = some fn ∧ fn.ps = 0 := by
          rw [← W.m, List.getElem?_map] at hps
          cases e : fs[f]? with
          | none => rw [e] at hps; cases hps
          | some fn => rw [e] at hps; exact ⟨fn, rfl, Option.some.inj hps⟩
        have hm := List.mem_of_getElem? hfn
        walk_at "g"
        refine ⟨H0, wa, x, tw, _, f, [], [], fs, fn, fu, ca, rfl, h2, rfu2, rv2, hw2, hfn, by simp, W.pn _ hm, W.n8 _ hm, b.fl, b.cl, wf.ca, by have := encV_len he; simp only [left, cC] at hsz; omega, fun H3 ea eca k3 h3 s3 => ?_, fun H3 ea eca efu k3 h3 s3 => ?_, fun H3 n p q u1 u2 eca efu k3 i1 i2 h3 => ?_⟩
        · walk_at "g"
          exact q2 H3 _ _ (.deep0 (by omega)) ⟨h3, b.sd, b.cs, ea, rfl, s3⟩
        · walk_at "g"
          subst efu
          exact q2 H3 _ _ (.long0 eca) ⟨h3, b.sd, b.cs, ea, rfl, s3⟩
        · walk_at "g"
          subst efu
          have he3 := encR_kt k3 he2
          refine q1 H3 _ _ (.call0 hfn eca) ⟨⟨h3, rfu2.kt k3, b.sd, b.cs, rfl, rfl, rfl, b.en⟩, ⟨elk, ewo, x.ws ++ [u1], u2, by simp, i2, x.ws, u1, x.na, x.bs, rfl, i1, by simp [b.nm], he3⟩⟩
      | part hlt =>
        rename_i sd ce fu ca nm v p ws s
        have hl : ws.length + 1 = (innerP p).length := by
          rw [List.length_append] at hc'
          have : (innerP p).length ≤ ws.length + 1 := hc'
          omega
        have hR := wf.c.2.2.2.1
        have vR := wf.c.1
        walk_at "g"
        refine tkF (wd_part _) ?_
        walk_at "g"
        cases p with
        | num n => simp [innerP] at hlt
        | name n => simp [innerP] at hlt
        | bin op p1 p2 =>
          obtain ⟨i, rfl, ei⟩ := iv2 (v := v) hl
          rw [ei] at hw2
          refine tkF (wd_call (t := .p (.bin op p1 p2)) trivial) ?_
          walk_at "g"
          refine g_midE (fun v' H' => v' = pairV op i v ∧ Ch K [] H2 H') ?_ ?_
          · walk_at "g"
            walk_at "yes"
            exact ⟨op, i, v, rfl, hR _ (by simp), vR, fun H3 c3 => ⟨rfl, c3⟩⟩
          · rintro _ H3 ⟨rfl, c3⟩
            have h3 := h2.ch c3
            have hS3 := c3.sqT hS2
            walk_at "g"
            refine tkF (by cases op <;> rfl) ?_
            walk_at "g"
            unfold pairV
            cases ep : pairI op i v with
            | some n =>
              refine g_isi (Rep.ty (.int n)) (kit_str (.int n)) ?_
              walk_at "g"
              walk_at "no"
              refine g_dput { x with wo := .int n } h3 (h3.put _) fun H4 k4 h4 => ?_
              have k24 := c3.kt.trans k4
              exact q1 H4 _ _ (.bin ep) ⟨⟨h4, rfu2.kt k24, b.sd, b.cs, b.fl, b.cl, b.nm, b.en⟩, ⟨elk, rfl, encR_kt k24 he2⟩⟩
            | none =>
              refine g_isi (Rep.ty (.str "over")) (kit_str (.str "over")) ?_
              walk_at "g"
              walk_at "yes"
              refine ⟨szle (by simp), fun t4 H4 _ e4 c4 => ?_⟩
              have h4 := h3.ch c4
              walk_at "g"
              refine g_dput { x with en := .ref t4 } h4 (h4.put _) fun H5 k5 h5 => ?_
              walk_at "g"
              refine g_dput { x with en := .ref t4, wo := .str "over" } h5 (h5.put _) fun H6 k6 h6 => ?_
              exact q2 H6 _ _ (.bin ep) ⟨h6, b.sd, b.cs, t4, rfl, (k5.trans k6).t _ _ (SqT.of e4)⟩
        | nt p1 =>
          obtain rfl := nil1 hl
          have hw2' : SqT K H2 tw [.int v] := hw2
          clear hw2
          refine tkF rfl ?_
          walk_at "g"
          refine g_midE (fun v' H' => v' = .int (if v = 0 then 1 else 0) ∧ H' = H2) ?_ ?_
          · walk_at "g"
            walk_at "no"
            refine ⟨?_, rfl⟩
            by_cases e : v = 0
            · subst e; rfl
            · rw [if_neg e, if_neg]
              intro z
              have := of_decide_eq_true z
              injection this
              exact e (by assumption)
          · rintro _ H3 ⟨rfl, e3⟩
            rw [e3]
            walk_at "g"
            walk_at "no"
            refine g_isi (Rep.ty (.int _)) (kit_str (.int (if v = 0 then 1 else 0))) ?_
            walk_at "g"
            walk_at "no"
            refine g_dput { x with wo := .int (if v = 0 then 1 else 0) } h2 (h2.put _) fun H4 k4 h4 => ?_
            exact q1 H4 _ _ .nt ⟨⟨h4, rfu2.kt k4, b.sd, b.cs, b.fl, b.cl, b.nm, b.en⟩, ⟨elk, rfl, encR_kt k4 he2⟩⟩
        | get p1 =>
          obtain rfl := nil1 hl
          have hw2' : SqT K H2 tw [.int v] := hw2
          clear hw2
          refine tkF rfl ?_
          walk_at "g"
          refine g_midE (fun v' H' => H' = H2) ?_ ?_
          · walk_at "g"
            walk_at "no"
            exact rfl
          · rintro v' H3 e3
            rw [e3]
            walk_at "g"
            walk_at "yes"
            have wce : ce.length = 64 := wf.ce
            refine iteB (fun hv => ?_) (fun hv => ?_)
            · have hv' : 0 ≤ v ∧ v < 64 := by simpa using hv
              obtain ⟨j, rfl⟩ : ∃ j : Nat, v = (j : Nat) := ⟨v.toNat, by omega⟩
              have hj : j < ce.length := by omega
              have hg : ce[j]? = some ce[j] := List.getElem?_eq_getElem hj
              have hat : atI (iv x.cs) ((j : Nat) : Int) = some (.int ce[j]) := by
                rw [b.cs]
                exact atI_nat (iv_get hg)
              have hcs : SqL K H2 x.ce (iv x.cs) := SqL.of h2.hc
              walk_at "g"
              refine g_isi (Rep.ty (.int _)) (kit_str (.int ce[j])) ?_
              walk_at "g"
              walk_at "no"
              refine g_dput { x with wo := .int ce[j] } h2 (h2.put _) fun H4 k4 h4 => ?_
              exact q1 H4 _ _ (.get hv'.1 (by rw [Int.toNat_natCast]; exact hg)) ⟨⟨h4, rfu2.kt k4, b.sd, b.cs, b.fl, b.cl, b.nm, b.en⟩, ⟨elk, rfl, encR_kt k4 he2⟩⟩
            · have hv2 : v < 0 ∨ 64 ≤ v := by
                simp only [Bool.and_eq_false_iff, decide_eq_false_iff_not] at hv
                omega
              walk_at "g"
              refine g_isi (Rep.ty (.str "cell")) (kit_str (.str "cell")) ?_
              walk_at "g"
              walk_at "yes"
              refine ⟨szle (by simp), fun t4 H4 _ e4 c4 => ?_⟩
              have h4 := h2.ch c4
              walk_at "g"
              refine g_dput { x with en := .ref t4 } h4 (h4.put _) fun H5 k5 h5 => ?_
              walk_at "g"
              refine g_dput { x with en := .ref t4, wo := .str "cell" } h5 (h5.put _) fun H6 k6 h6 => ?_
              exact q2 H6 _ _ (.get (by omega)) ⟨h6, b.sd, b.cs, t4, rfl, (k5.trans k6).t _ _ (SqT.of e4)⟩
        | call f qs =>
          refine tkT rfl ?_
          have hps : ps[f]? = some qs.length := wf.c.2.2.1.1
          obtain ⟨fn, hfn, hp0⟩ : ∃ fn, fs[f]? = some fn ∧ fn.ps = qs.length := by
            rw [← W.m, List.getElem?_map] at hps
            cases e : fs[f]? with
            | none => rw [e] at hps; cases hps
            | some fn => rw [e] at hps; exact ⟨fn, rfl, Option.some.inj hps⟩
          have hm := List.mem_of_getElem? hfn
          have hpn := W.pn _ hm
          have hn8 := W.n8 _ hm
          have hl' : ws.length + 1 = qs.length := hl
          walk_at "g"
          refine ⟨H0, wa, x, tw, _, f, qs, ws ++ [v], fs, fn, fu, ca, rfl, h2, rfu2, rv2, hw2, hfn, by rw [List.length_append]; simp only [List.length_cons, List.length_nil]; omega, hpn, hn8, b.fl, b.cl, wf.ca, by have := encV_len he; simp only [left, cC, cV] at hsz; omega, fun H3 ea eca k3 h3 s3 => ?_, fun H3 ea eca efu k3 h3 s3 => ?_, fun H3 n p q u1 u2 eca efu k3 i1 i2 h3 => ?_⟩
          · walk_at "g"
            exact q2 H3 _ _ (.deep (by omega) hl') ⟨h3, b.sd, b.cs, ea, rfl, s3⟩
          · walk_at "g"
            subst efu
            exact q2 H3 _ _ (.long eca hl') ⟨h3, b.sd, b.cs, ea, rfl, s3⟩
          · walk_at "g"
            subst efu
            have he3 := encR_kt k3 he2
            refine q1 H3 _ _ (.call hfn eca hl') ⟨⟨h3, rfu2.kt k3, b.sd, b.cs, rfl, rfl, rfl, b.en⟩, ⟨elk, ewo, x.ws ++ [u1], u2, by simp, i2, x.ws, u1, x.na, x.bs, rfl, i1, by simp [b.nm], he3⟩⟩
      | deed hlt =>
        rename_i sd ce fu ca nm v d ws s
        have hl : ws.length + 1 = (innerD d).length := by
          rw [List.length_append] at hc'
          have : (innerD d).length ≤ ws.length + 1 := hc'
          omega
        walk_at "g"
        refine tkT (wd_deed _) ?_
        walk_at "g"
        refine ⟨H0, wa, x, tw, _, d, ws, v, s, ps, sd, ce, fu, ca, nm, fs, rfl, b2, wf, hsz, ewo, elk, he2, rv2, hw2, hl, fun H3 x3 st3 s3 l3 => ?_, fun H3 x3 f3 e3 l3 => ?_⟩
        · walk_at "g"
          exact q1 H3 _ _ s3 l3
        · walk_at "g"
          exact q2 H3 _ _ e3 l3
      | body hb =>
        rename_i sd ce fu ca nm bb i d s
        cases d <;> simp [innerT, innerD] at hc'
      | again => simp [innerT, innerD] at hc'
end
end K3
end

section
set_option maxRecDepth 100000
set_option maxHeartbeats 1000000
open Bq L2
/-- one step of a reading; what is left are side goals and places to think -/
local macro_rules | `(tactic| walk_at "g1") => `(tactic| first
  | with_reducible refine' g_seq ?_ | with_reducible refine' g_asg ?_ | with_reducible refine' g_drop ?_ | with_reducible refine' g_ret ?_ | with_reducible refine' g_ifS ?_ | with_reducible refine' g_asgG ?_
  | ((with_reducible refine' g_var ?hv ?_); (case hv => rfl))
  | with_reducible refine' g_c ?_ | with_reducible refine' g_op ?_ | with_reducible refine' g_un ?_ | with_reducible refine' g_I0 ?_ | with_reducible refine' g_U ?_
  | with_reducible refine' g_test ?_ | with_reducible refine' g_tB ?_ | with_reducible refine Exists.intro _ (And.intro rfl ?_) 
  | ((with_reducible refine' g_andP ?ha ?hb ?_); (case ha => intro R q; walk_at "g"; exact q); (case hb => intro R q; walk_at "g"; exact q))
  | ((with_reducible refine' g_orP ?ha ?hb ?_); (case ha => intro R q; walk_at "g"; exact q); (case hb => intro R q; walk_at "g"; exact q))
  | with_reducible refine' g_and ?_ | with_reducible refine' g_or ?_ | with_reducible refine' g_not ?_
  | with_reducible refine' g_andV ?_ | with_reducible refine' g_orV ?_ | with_reducible refine' g_notV ?_ | with_reducible refine' g_if ?_ | with_reducible refine' g_nil ?_ | with_reducible refine' g_cons ?_
  | with_reducible refine' g_tup ?_ | with_reducible refine' g_lst ?_ | with_reducible refine' g_CB ?_ | with_reducible refine' g_Fn ?_ | with_reducible refine' g_next ?_ | with_reducible refine' g_retN ?_
  | with_reducible refine' g_name ?_ | with_reducible refine' g_sub ?_
  | ((with_reducible refine' g_ixL ?hs ?he ?_); (case hs => walk_at "lk"); (case he => walk_at "at"))
  | ((with_reducible refine' g_ixT ?hs ?he ?_); (case hs => walk_at "lk"); (case he => walk_at "at"))
  | ((with_reducible refine' g_setL ?hs ?he ?_); (case hs => walk_at "hp"); (case he => rfl))
  | ((with_reducible refine' g_app ?hs ?hz ?_); (case hs => walk_at "hp"); (case hz => walk_at "sz"))
  | ((with_reducible refine' ⟨_, _, rfl, Or.inl ?hs, ?_⟩); (case hs => walk_at "lk"))
  | ((with_reducible refine' ⟨_, _, rfl, Or.inr ?hs, ?_⟩); (case hs => walk_at "lk"))
  | with_reducible refine' g_BM ?_ | with_reducible refine' g_BM0 ?_ | ((with_reducible refine' g_tyL ?hs ?_); (case hs => walk_at "lk"))
  | with_reducible refine' g_sl ?_ | with_reducible refine' g_noPart ?_ | with_reducible refine' g_part ?_
  | ((with_reducible refine' g_inT ?hs ?fx ?fs ?_); (case hs => walk_at "lk"); (case fx => rfl); (case fs => rfl))
  | with_reducible refine' g_pair ?_ | with_reducible refine' g_pair0 ?_ | with_reducible refine' g_disp ?_
  | with_reducible refine' g_for ?_ | with_reducible refine' g_tupC ?_ | with_reducible refine' g_lstC ?_ | ((with_reducible refine' g_lens ?_)) | with_reducible refine' g_dg ?_ | with_reducible refine' g_lc ?_ | with_reducible refine' g_rng1 ?_ | with_reducible refine' g_ilist ?_ | with_reducible refine' g_itup ?_
  | ((with_reducible refine' ⟨_, _, rfl, ?hd, ?_⟩); (case hd => walk_at "dg"))
  | ((with_reducible refine' g_eqNil ?hs ?hz ?_); (case hs => walk_at "lk"); (case hz => walk_at "lk"))
  | ((with_reducible refine' g_neNil ?hs ?hz ?_); (case hs => walk_at "lk"); (case hz => walk_at "lk"))
  | with_reducible refine Or.inl ⟨_, rfl, ?_⟩
  | with_reducible refine Or.inr ⟨_, rfl, ?_⟩
  | ((with_reducible refine' g_eq ?hs ?_); (case hs => rfl))
  | ((with_reducible refine' g_ne ?hs ?_); (case hs => rfl))
  | ((with_reducible refine' g_I ?hc ?_); (case hc => walk_at "ar")))
/-- arithmetic's side conditions -/
local macro_rules | `(tactic| walk_at "ar") => `(tactic| (first
  | (show (0 : Int) < _; first | omega | decide) | (show (0 : Int) < _ ∧ _; constructor <;> omega) | (show ¬ (_ : Int) = _; omega) | (show (_ : Int) ≠ _ ∧ _; constructor <;> omega)
  | (show (-(2 ^ 64) < _ ∧ _) ∨ _; (first | (left; constructor <;> omega) | (right; constructor <;> omega))) | (show (0 : Int) ≤ _ ∧ _ ∧ _; refine ⟨by omega, by omega, by decide⟩)))
/-- what stands at an index -/
local macro_rules | `(tactic| walk_at "at") => `(tactic| first | rfl | assumption)
/-- what stands at an address -/
local macro_rules | `(tactic| walk_at "hp") => `(tactic| first | assumption | exact upd_same | ((refine' Eq.trans (upd_ne ?hn) ?hm); (case hm => walk_at "hp"); (case hn => walk_at "ne")))
/-- two places are two -/
local macro_rules | `(tactic| walk_at "ne") => `(tactic| first
  | assumption | exact Ne.symm (by assumption)
  | ((refine' ne_of_none ?ha ?hb); (case hb => assumption); (case ha => walk_at "hp")) | ((refine' Ne.symm (ne_of_none ?ha ?hb)); (case hb => assumption); (case ha => walk_at "hp")))
/-- what a dict tells -/
local macro_rules | `(tactic| walk_at "dg") => `(tactic| first | assumption)
/-- a length -/
local macro_rules | `(tactic| walk_at "sz") => `(tactic| first | (show _ ≤ sizeLine; decide) | (show _ < sizeLine; decide) | assumption | exact szlt (by simp) | exact szle (by simp))
/-- a list or tuple that stands -/
local macro_rules | `(tactic| walk_at "lk") => `(tactic| first | assumption | exact SqL.of (by assumption) | exact SqT.of (by assumption) | exact SqL.of upd_same | exact SqT.of upd_same | (refine' FzL.sq ?hm; (case hm => walk_at "fz")))
/-- a list that nobody writes -/
local macro_rules | `(tactic| walk_at "fz") => `(tactic| first | assumption | ((refine' FzL.uw ?hm ?hx); (case hx => walk_at "hp"); (case hm => walk_at "fz")) | ((refine' FzL.nw ?hm ?hx); (case hx => assumption); (case hm => walk_at "fz")))
/-- as far as it goes by itself -/
local macro_rules | `(tactic| walk_at "g") => `(tactic| repeat walk_at "g1")
/-- the body's reading, its places in short -/
local macro_rules | `(tactic| walk_at "go") => `(tactic| ((try dsimp only [cxOf, Cx.nox, Cx.wish]); walk_at "g"))
namespace K3
open PySem PySem.Spec PyProof.Rows L2 Bq
section
variable {P : Program} {w : World} {K : PySem.W.Frag} {mg : Str → Option Value} {base : Heap}
/-- further steps: dicts written, tuples taken apart -/
local macro_rules | `(tactic| walk_at "g1") => `(tactic| first
  | with_reducible refine' g_sdput ?_
  | ((with_reducible refine' g_gtup ?hs ?hl ?_); (case hs => walk_at "lk"); (case hl => rfl))
  | with_reducible refine' g_gcons ?_
  | with_reducible refine' g_gnil ?_
  | with_reducible refine' And.intro (Eq.refl V.non) ?_
  | with_reducible refine' g_isN ?_
  | ((with_reducible refine' g_chainR ?ha ?hb ?hc ?_); (case ha => intro R q; walk_at "g"; exact q); (case hb => intro R q; walk_at "g"; exact q); (case hc => intro R q; walk_at "g"; exact q))
  | with_reducible refine' g_notN ?_)
/-- what the law's dict tells -/
local macro_rules | `(tactic| walk_at "dg") => `(tactic| first
  | assumption
  | exact LH.gfuns (by assumption)
  | exact LH.gsaid (by assumption)
  | exact LH.gcells (by assumption)
  | exact LH.gfuel (by assumption)
  | exact LH.gend (by assumption)
  | exact LH.gcalls (by assumption)
  | exact LH.gnames (by assumption)
  | exact LH.gwaits (by assumption)
  | exact LH.gworth (by assumption)
  | exact LH.glook (by assumption))
/-- a test that fails, that holds, by itself -/
local macro_rules | `(tactic| walk_at "no") => `(tactic| ((refine tkF rfl ?_); walk_at "g"))
local macro_rules | `(tactic| walk_at "yes") => `(tactic| ((refine tkT rfl ?_); walk_at "g"))
/-! ### one step of the law's own reckoning -/
theorem reps_iv {H : Hp} : ∀ {vs : List V} {l : List Int}, Reps K H vs (l.map T.int) → vs = iv l
  | vs, [], r => r.nilI
  | vs, i :: l, r => by
    obtain ⟨v, us, rfl, h, q⟩ := r.consI
    rw [h.intI, reps_iv q]
    rfl
theorem iv_reps {H : Hp} : ∀ l : List Int, Reps K H (iv l) (l.map T.int)
  | [] => .nil
  | i :: l => .cons (.int i) (iv_reps l)
theorem wd_leaf {p : Pt} (h : leafP p = false) : inV (V.str (wdT (.p p))) [V.str "num", V.str "name"] = false := by
  cases p with
  | bin op _ _ => cases op <;> rfl
  | num _ => cases h
  | name _ => cases h
  | _ => rfl
theorem encB_get : ∀ {b : List Dd} {n : Nat} {d : Dd}, b[n]? = some d → (encB b)[n]? = some (encDd d)
  | [], n, p, h => by simp at h
  | q :: r, 0, p, h => by simp at h; subst h; rfl
  | q :: r, n + 1, p, h => by
    have := encB_get (b := r) (n := n) (d := p) (by simpa using h)
    simpa [encB] using this
theorem give_cut {H : Hp} {ps : List Nat} {n c : Nat} {s : VS} {l : List V} {bs : List (Addr × List Int)} (e : encV K H s l bs) (w : wfVS ps n c s) (h8 : ∀ n ∈ ps, n ≤ 8) : ∃ ys u t ws r, l = ys ++ [u] ∧ IsThing K H u t ws ∧ encR K H r ys bs ∧
    (∀ sd ce fu ca nm v, Bg ⟨sd, ce, fu, ca, nm, .give v s⟩ t (ws ++ [v]) r) ∧ ws.length ≤ 8 := by
  cases s with
  | part t ws r =>
    obtain ⟨ys, u, rfl, h, q⟩ := e
    refine ⟨ys, u, .p t, ws, .inl r, rfl, h, q, fun _ _ _ _ _ _ => .part w.1, ?_⟩
    have h := w.1
    cases t with
    | call f qs =>
      have h1 := h8 _ (List.mem_of_getElem? w.2.1.1)
      have h2 : ws.length < qs.length := h
      omega
    | bin op a b => have h2 : ws.length < 2 := h; omega
    | nt a => have h2 : ws.length < 1 := h; omega
    | get a => have h2 : ws.length < 1 := h; omega
    | num n => have h2 : ws.length < 0 := h; omega
    | name n => have h2 : ws.length < 0 := h; omega
  | deed d ws r =>
    obtain ⟨ys, u, rfl, h, q⟩ := e
    refine ⟨ys, u, .d d, ws, .inr r, rfl, h, q, fun _ _ _ _ _ _ => .deed w.1, ?_⟩
    have h := w.1
    have h2 : (innerD d).length ≤ 2 := by cases d <;> simp [innerD]
    omega
def spGo (K : PySem.W.Frag) : Sp := fun vs H Q _ => ∃ H0 wa x ps st, ∃ fs : List Fu, vs = [.ref wa] ∧ LS K H0 H wa fs x st ∧ WfSt ps st ∧ WfPs ps fs ∧ st.said.length + left st ≤ 4000000 ∧
  (∀ H' x' st', Step fs st st' → LS K H0 H' wa fs x' st' → Q .non H') ∧ ∀ H' x' fi, Ends fs st fi → LE K H0 H' wa x' fi → Q .non H'
theorem fn_go (C : Cn w K mg base) : Fn P w K mg base CX0 5 "_law_go" ["_law_w"] (spGo K) := C.f_law_go fun fd F => by
  have F_law_begin : Fn P w K mg base CX0 4 "_law_begin" ["_law_w", "_law_thing", "_law_worths"] (spBegin K) := fn_begin C
  refine F.ok (CX := CX0) sc_law_go (fun vs H Q E h => ?_) (fun cdv A outer s H vs Q E hr h => ?_)
  · obtain ⟨H0, wa, x, ps, st, fs, rfl, _⟩ := h
    rfl
  · obtain ⟨H0, wa, x, ps, st, fs, rfl, b, wf, W, hsz, q1, q2⟩ := h
    have hu := hu_of (rmm (j := 1) hr)
    have hu0 : ∀ {A : Around}, A.units + 1 < cLine → A.units < cLine := fun h => by omega
    replace hu0 := hu0 hu
    refine ⟨_, PSs.nox (pss_one (ps_if (pt_cmpR op_notN (pe_dget hu (pv 0) pe_str (fun _ _ => rfl)) pe_non (nomark _)) (pss_cons (ps_asg (pe_tupC (pa_cons (pe_dget hu (pv 0) pe_str (fun _ _ => rfl)) (pa_cons pe_non pa_nil))) (pg_tup rfl (pgs_cons (pg_name (i := 1) sc_law_go.nd rfl (Or.inl rfl)) (pgs_cons (pg_sub (pv 0) pe_str (set_dict hu)) pgs_nil))))
      (pss_one (ps_if (pt_cmpR op_in_seq (pe_ix ix_tup (pv 1) pe_int (fun _ _ => rfl)) (pe_tupC (pa_cons pe_str (pa_cons pe_str pa_nil))) (by rfl)) (pss_one (ps_dput hu (pv 0) pe_str (pe_ifExp (pt_cmpR op_eq (pe_ix ix_tup (pv 1) pe_int (fun _ _ => rfl)) pe_str (nomark _)) (pe_ix ix_tup (pv 1) pe_int (fun _ _ => rfl)) (pe_ix ix_list (pe_dget hu (pv 0) pe_str (fun _ _ => rfl)) (pe_ix ix_tup (pv 1) pe_int (fun _ _ => rfl)) (fun _ _ => rfl))) rfl)) (pss_one (ps_expr (pe_fn F_law_begin (rmm hr) (by rfl) pass0 (pa_cons (pv 0) (pa_cons (pv 1) (pa_cons (pe_tupC pa_nil) pa_nil))))))))) (pss_one (ps_if (pt_cmpR (op_eqNil hu0) (pe_dget hu (pv 0) pe_str (fun _ _ => rfl)) (pe_lstC pa_nil) (nomark _)) (pss_one (ps_dput hu (pv 0) pe_str (pe_tupC (pa_cons pe_str (pa_cons (pe_ifExp (pt_cmpR op_isN (pe_dget hu (pv 0) pe_str (fun _ _ => rfl)) pe_non (nomark _)) pe_int (pe_dget hu (pv 0) pe_str (fun _ _ => rfl))) pa_nil))) rfl)) (pss_cons (ps_asg (pe_bm0 PySem.F.plainAttrs_list PySem.F.slot_list_pop PySem.F.type_list_pop mt_pop (pe_dget hu (pv 0) pe_str (fun _ _ => rfl))) (pg_tup rfl (pgs_cons (pg_name (i := 2) sc_law_go.nd rfl (Or.inl rfl)) (pgs_cons (pg_name (i := 1) sc_law_go.nd rfl (Or.inl rfl)) (pgs_cons (pg_name (i := 3) sc_law_go.nd rfl (Or.inl rfl)) pgs_nil)))))
      (pss_one (ps_if (pt_cmpR op_eq (pv 2) pe_str (nomark _)) (pss_cons (ps_asg (pe_tupC (pa_cons (pv 1) (pa_cons (pe_op op_sub (pe_dget hu (pv 0) pe_str (fun _ _ => rfl)) pe_int) pa_nil))) (pg_tup rfl (pgs_cons (pg_sub (pv 0) pe_str (set_dict hu)) (pgs_cons (pg_sub (pv 0) pe_str (set_dict hu)) pgs_nil))))
      (pss_one (ps_dput hu (pv 0) pe_str (pe_ifExp (pt_cmpR op_isN (pe_dget hu (pv 0) pe_str (fun _ _ => rfl)) pe_non (nomark _)) pe_int (pe_dget hu (pv 0) pe_str (fun _ _ => rfl))) rfl))) (pss_one (ps_if (pt_mid (PW.pt (pw_and (pt_cmpR op_eq (pv 2) pe_str (nomark _)) (pw_and1 (pt_cmpR op_lt (pv 3) (pe_callB call_len_seq (by rfl) (C.m_len) PySem.boot_len (pa_cons (pv 1) pa_nil)) (nomark _)))))) (pss_cons (ps_expr (pe_bm PySem.F.plainAttrs_list PySem.F.slot_list_append PySem.F.type_list_append mt_append (pe_dget hu (pv 0) pe_str (fun _ _ => rfl)) (pa_cons (pe_tupC (pa_cons (pv 2) (pa_cons (pv 1) (pa_cons (pe_op op_add (pv 3) pe_int) pa_nil)))) pa_nil)))
      (pss_one (ps_expr (pe_fn F_law_begin (rmm hr) (by rfl) pass0 (pa_cons (pv 0) (pa_cons (pe_ix ix_tup (pv 1) (pv 3) (fun _ _ => rfl)) (pa_cons (pe_tupC pa_nil) pa_nil))))))) (pss_one (ps_if (pt_cmpR op_eq (pv 2) pe_str (nomark _)) (pss_one (ps_expr (pe_fn F_law_begin (rmm hr) (by rfl) pass0 (pa_cons (pv 0) (pa_cons (pv 1) (pa_cons (pe_tupC pa_nil) pa_nil)))))) (pss_one (ps_if (pt_cmpR op_eq (pv 2) pe_str (nomark _)) (pss_cons (ps_asg (pe_tupC (pa_cons (pe_dget hu (pv 0) pe_str (fun _ _ => rfl)) (pa_cons pe_non pa_nil))) (pg_tup rfl (pgs_cons (pg_name (i := 4) sc_law_go.nd rfl (Or.inl rfl)) (pgs_cons (pg_sub (pv 0) pe_str (set_dict hu)) pgs_nil))))
      (pss_one (ps_expr (pe_fn F_law_begin (rmm hr) (by rfl) pass0 (pa_cons (pv 0) (pa_cons (pv 1) (pa_cons (pe_op op_catR (pv 3) (pe_tupC (pa_cons (pv 4) pa_nil))) pa_nil))))))) pss_nil))))))))))))), ?_⟩
    obtain ⟨⟨h, rfu, esd, ecs, efl, ecl, enm, een⟩, ct⟩ := b
    obtain ⟨sd, ce, fu, ca, nm, c⟩ := st
    simp only at esd ecs efl ecl enm ct
    have lws : x.ws.length ≤ 4000000 := by
      cases c with
      | look p s => have := encV_len ct.2.2.2; simp only [left, cC] at hsz; omega
      | give p s => have := encV_len ct.2.2; simp only [left, cC] at hsz; omega
      | go s => have := encD_len ct.2.2; simp only [left, cC] at hsz; omega
      | ret v s => have := encD_len ct.2.2; simp only [left, cC] at hsz; omega
    cases c with
    | look p s =>
      obtain ⟨⟨la, ela⟩, rlk, ewo, he⟩ := ct
      walk_at "go"
      rw [ela]
      walk_at "yes"
      refine ⟨szle (by simp), fun t1 H1 _ e1 c1 => ?_⟩
      have h1 := h.ch c1
      walk_at "g"
      refine g_dput { x with lk := .non } h1 (h1.put _) fun H2 k2 h2 => ?_
      have k02 := c1.kt.trans k2
      have rlk2 := rlk.kt k02
      rw [ela] at rlk2 ⊢
      obtain ⟨la', us, ee, hS2, rs2⟩ := thing1 (t := .p p) rlk2
      obtain rfl : la = la' := by injection ee
      have h0 := atI_nat (j := 0) (List.getElem?_cons_zero (a := V.str (wdT (.p p))) (l := us))
      walk_at "g"
      refine ⟨szle (by simp), fun t3 H3 _ e3 c3 => ?_⟩
      have h3 := h2.ch c3
      have hS3 := c3.sqT hS2
      have k03 := k02.trans c3.kt
      cases hlf : leafP p with
      | true =>
        walk_at "g"
        cases p with
        | num n =>
          walk_at "yes"
          obtain ⟨v1, us, rfl, r1, rs2⟩ := rs2.consI
          obtain rfl := rs2.nilI
          obtain rfl := r1.intI
          walk_at "yes"
          refine g_dput { x with lk := .non, wo := .int n } h3 (h3.put _) fun H4 k4 h4 => ?_
          exact q1 H4 _ _ .num ⟨⟨h4, rfu.kt (k03.trans k4), esd, ecs, efl, ecl, enm, een⟩, ⟨rfl, rfl, encV_kt (k03.trans k4) he⟩⟩
        | name n =>
          walk_at "yes"
          obtain ⟨v1, us, rfl, r1, rs2⟩ := rs2.consI
          obtain rfl := rs2.nilI
          obtain rfl := r1.intI
          have hn : n < nm.length := wf.c.1
          have hg : nm[n]? = some nm[n] := List.getElem?_eq_getElem hn
          have hat : atI (iv x.nm) ((n : Nat) : Int) = some (.int nm[n]) := by
            rw [enm]
            exact atI_nat (iv_get hg)
          have hns : SqL K H3 x.na (iv x.nm) := SqL.of h3.hn
          walk_at "no"
          refine g_dput { x with lk := .non, wo := .int nm[n] } h3 (h3.put _) fun H4 k4 h4 => ?_
          exact q1 H4 _ _ (.name hg) ⟨⟨h4, rfu.kt (k03.trans k4), esd, ecs, efl, ecl, enm, een⟩, ⟨rfl, rfl, encV_kt (k03.trans k4) he⟩⟩
        | _ => cases hlf
      | false =>
        walk_at "g"
        refine tkF (wd_leaf hlf) ?_
        walk_at "g"
        refine ⟨szle (by simp), fun t4 H4 _ e4 c4 => ?_⟩
        have h4 := h3.ch c4
        have k04 := k03.trans c4.kt
        walk_at "g"
        refine ⟨H0, wa, { x with lk := .non }, t4, _, .p p, [], .inl s, ps, _, fs, rfl, ⟨h4, rfu.kt k04, esd, ecs, efl, ecl, enm, een⟩, wf, W, hsz, ewo, rfl, encV_kt k04 he, rlk2.kt (c3.trans c4).kt, SqT.of e4, .look hlf, fun H5 x5 st5 s5 l5 => ?_, fun H5 x5 f5 e5 l5 => ?_⟩
        · walk_at "g"
          exact q1 H5 _ _ s5 l5
        · walk_at "g"
          exact q2 H5 _ _ e5 l5
    | give v s =>
      obtain ⟨elk, ewo, he⟩ := ct
      obtain ⟨ys, u, t, ws, r, el, ⟨ua, v1, tw, rfl, hua, rv, htw⟩, hr', hbg, lw8⟩ := give_cut he wf.c.2 (fun n hn => by
        rw [← W.m] at hn
        obtain ⟨g, hg, rfl⟩ := List.mem_map.mp hn
        exact Nat.le_trans (W.pn g hg) (W.n8 g hg))
      rw [el] at lws
      have hx : x = { x with ws := ys ++ [.ref ua] } := by rw [← el]
      rw [hx] at h
      have lys : ys.length ≤ 4000000 := by simp at lws; omega
      walk_at "go"
      rw [elk]
      walk_at "no"
      refine ⟨szle (by simp), fun t1 H1 _ e1 c1 => ?_⟩
      have h1 := h.ch c1
      have hw1 : SqL K H1 x.wt (ys ++ [V.ref ua]) := SqL.of h1.hw
      walk_at "g"
      refine tkF (by simp) ?_
      walk_at "g"
      refine ⟨_, _, V.ref ua, rfl, rfl, h1.hw, by simp, ?_⟩
      rw [List.dropLast_concat]
      have h2 := h1.wait ys
      have k2 : Kt K H1 (upd H1 x.wt (.lst ys)) := (Ch.wr (S := [x.wt]) h1.hw rfl (by simp)).kt
      generalize upd H1 x.wt (.lst ys) = H2 at h2 k2 ⊢
      have k02 := c1.kt.trans k2
      have hua2 := k02.t _ _ hua
      walk_at "g"
      walk_at "no"
      refine g_mid (fun b H' => b = false ∧ H' = H2) ?_ ?_
      · walk_at "g"
        exact tkF rfl ⟨rfl, rfl⟩
      · rintro _ H3 ⟨rfl, e3⟩
        rw [e3]
        walk_at "no"
        walk_at "no"
        walk_at "yes"
        refine ⟨szle (by simp), fun t3 H3 _ e3 c3 => ?_⟩
        have h3 := h2.ch c3
        walk_at "g"
        refine g_dput { x with ws := ys, wo := .non } h3 (h3.put _) fun H4 k4 h4 => ?_
        walk_at "g"
        refine ⟨szle (by simp), fun t5 H5 _ e5 c5 => ?_⟩
        have h5 := h4.ch c5
        have k05 := k02.trans (c3.kt.trans (k4.trans c5.kt))
        rw [ewo] at e5
        refine ⟨ws.map T.int, [T.int v], .tup (k05.t _ _ htw) (iv_reps ws), .tup (SqT.of e5) (.cons (.int v) .nil), by simp; omega, fun vv H6 c6 r6 => ?_⟩
        obtain ⟨ta, tvs, rfl, hta, rta⟩ := r6.tupI
        obtain rfl : tvs = iv (ws ++ [v]) := reps_iv (by rw [List.map_append]; exact rta)
        have k06 := k05.trans c6.kt
        walk_at "g"
        refine ⟨H0, wa, { x with ws := ys, wo := .non }, ta, _, t, ws ++ [v], r, ps, _, fs, rfl, ⟨h5.ch c6, rfu.kt k06, esd, ecs, efl, ecl, enm, een⟩, wf, W, hsz, rfl, elk, encR_kt k06 hr', rv.kt k06, hta, hbg _ _ _ _ _ _, fun H7 x7 st7 s7 l7 => ?_, fun H7 x7 f7 e7 l7 => ?_⟩
        · walk_at "g"
          exact q1 H7 _ _ s7 l7
        · walk_at "g"
          exact q2 H7 _ _ e7 l7
    | go s =>
      obtain ⟨elk, ewo, he⟩ := ct
      cases s with
      | nil =>
        obtain ⟨el, eb⟩ := he
        rw [el] at lws
        have hx : x = { x with ws := [] } := by rw [← el]
        rw [hx] at h
        walk_at "go"
        rw [elk]
        walk_at "no"
        refine ⟨szle (by simp), fun t1 H1 _ e1 c1 => ?_⟩
        have h1 := h.ch c1
        have hw1 : SqL K H1 x.wt [] := SqL.of h1.hw
        walk_at "g"
        walk_at "yes"
        rw [ewo]
        walk_at "yes"
        refine ⟨szle (by simp), fun t2 H2 _ e2 c2 => ?_⟩
        have h2 := h1.ch c2
        walk_at "g"
        refine g_dput { x with ws := [], en := .ref t2 } h2 (h2.put _) fun H3 k3 h3 => ?_
        have hca : ca = 0 := wf.c
        subst hca
        exact q2 H3 _ _ .go ⟨h3, esd, ecs, t2, rfl, k3.t _ _ (SqT.of e2)⟩
      | back ns r =>
        obtain ⟨ys, _, na, bs', el, ⟨ua, rfl, hua⟩, eb, er⟩ := he
        obtain ⟨c', rfl, _⟩ : ∃ c', ca = c' + 1 ∧ True := by
          obtain ⟨c', e, _⟩ := wf.c
          exact ⟨c', e, trivial⟩
        rw [el] at lws
        have hx : x = { x with ws := ys ++ [.ref ua] } := by rw [← el]
        rw [hx] at h
        have lys : ys.length ≤ 4000000 := by simp at lws; omega
        walk_at "go"
        rw [elk]
        walk_at "no"
        refine ⟨szle (by simp), fun t1 H1 _ e1 c1 => ?_⟩
        have h1 := h.ch c1
        have hw1 : SqL K H1 x.wt (ys ++ [V.ref ua]) := SqL.of h1.hw
        walk_at "g"
        refine tkF (by simp) ?_
        walk_at "g"
        refine ⟨_, _, V.ref ua, rfl, rfl, h1.hw, by simp, ?_⟩
        rw [List.dropLast_concat]
        have h2 := h1.wait ys
        have k2 : Kt K H1 (upd H1 x.wt (.lst ys)) := (Ch.wr (S := [x.wt]) h1.hw rfl (by simp)).kt
        generalize upd H1 x.wt (.lst ys) = H2 at h2 k2 ⊢
        have k02 := c1.kt.trans k2
        have hua2 := k02.t _ _ hua
        walk_at "g"
        walk_at "yes"
        refine ⟨szle (by simp), fun t3 H3 _ e3 c3 => ?_⟩
        have h3 := h2.ch c3
        walk_at "g"
        have h3b : ({ x with ws := ys } : LD).bs = (na, ns) :: bs' := eb
        refine g_dput { x with ws := ys, na := na, nm := ns, bs := bs', cl := x.cl } h3 (h3.back h3b) fun H4 k4 h4 => ?_
        walk_at "g"
        refine g_dput { x with ws := ys, na := na, nm := ns, bs := bs', cl := x.cl - 1 } h4 (h4.put _) fun H5 k5 h5 => ?_
        walk_at "g"
        rw [ewo]
        walk_at "yes"
        refine g_dput { x with ws := ys, na := na, nm := ns, bs := bs', cl := x.cl - 1, wo := .int 0 } h5 (h5.put _) fun H6 k6 h6 => ?_
        have k06 := k02.trans (c3.kt.trans (k4.trans (k5.trans k6)))
        exact q1 H6 _ _ .goBack ⟨⟨h6, rfu.kt k06, esd, ecs, efl, by simp only [ecl]; omega, rfl, een⟩, ⟨elk, rfl, encV_kt k06 er⟩⟩
      | body bb i r =>
        obtain ⟨ys, _, el, ⟨ua, v1, rfl, hua, rv⟩, er⟩ := he
        have wc := wf.c
        rw [el] at lws
        have hx : x = { x with ws := ys ++ [.ref ua] } := by rw [← el]
        rw [hx] at h
        have lys : ys.length ≤ 4000000 := by simp at lws; omega
        walk_at "go"
        rw [elk]
        walk_at "no"
        refine ⟨szle (by simp), fun t1 H1 _ e1 c1 => ?_⟩
        have h1 := h.ch c1
        have hw1 : SqL K H1 x.wt (ys ++ [V.ref ua]) := SqL.of h1.hw
        walk_at "g"
        refine tkF (by simp) ?_
        walk_at "g"
        refine ⟨_, _, V.ref ua, rfl, rfl, h1.hw, by simp, ?_⟩
        rw [List.dropLast_concat]
        have h2 := h1.wait ys
        have k2 : Kt K H1 (upd H1 x.wt (.lst ys)) := (Ch.wr (S := [x.wt]) h1.hw rfl (by simp)).kt
        generalize upd H1 x.wt (.lst ys) = H2 at h2 k2 ⊢
        have k02 := c1.kt.trans k2
        have hua2 := k02.t _ _ hua
        walk_at "g"
        walk_at "no"
        obtain ⟨da, dvs, rfl, hda, rds⟩ := rv.tupI
        have hda2 := k02.t _ _ hda
        have ldv : dvs.length = bb.length := by rw [rds.len, encB_len]
        refine g_mid (fun b H' => b = decide (i < bb.length) ∧ H' = H2) ?_ ?_
        · walk_at "g"
          refine ⟨?_, rfl⟩
          rw [ldv]
          simp
        · rintro _ H3 ⟨rfl, e3⟩
          rw [e3]
          refine iteB (fun hc => ?_) (fun hc => ?_)
          · have hi : i < bb.length := of_decide_eq_true hc
            have hg : bb[i]? = some bb[i] := List.getElem?_eq_getElem hi
            obtain ⟨dv, hdv, rdv⟩ := rds.getT (encB_get hg)
            have hat : atI dvs ((i : Nat) : Int) = some dv := atI_nat hdv
            walk_at "g"
            refine ⟨.inl ⟨rfl, _, SqL.of h2.hw⟩, ?_⟩
            walk_at "g"
            refine ⟨szle (by simp), fun t3 H3 _ e3 c3 => ?_⟩
            have h3 := h2.ch c3
            walk_at "g"
            refine g_app h3.hw (szm (Nat.le_trans lys (by decide))) ?_
            have h4 := h3.wait (ys ++ [.ref t3])
            have k4 : Kt K H3 (upd H3 x.wt (.lst (ys ++ [.ref t3]))) := (Ch.wr (S := [x.wt]) h3.hw rfl (by simp)).kt
            generalize upd H3 x.wt (.lst (ys ++ [.ref t3])) = H4 at h4 k4 ⊢
            have k24 := c3.kt.trans k4
            have hda4 := k24.t _ _ hda2
            walk_at "g"
            refine ⟨szle (by simp), fun t5 H5 _ e5 c5 => ?_⟩
            have h5 := h4.ch c5
            have k05 := k02.trans (k24.trans c5.kt)
            walk_at "g"
            have e3' : SqT K H5 t3 [.str "body", .ref da, .int ((i + 1 : Nat) : Int)] := (k4.trans c5.kt).t _ _ (SqT.of e3)
            refine ⟨H0, wa, { x with ws := ys ++ [.ref t3] }, t5, _, .d bb[i], [], .inr (.body bb (i + 1) r), ps, _, fs, rfl, ⟨h5, rfu.kt k05, esd, ecs, efl, ecl, enm, een⟩, wf, W, hsz, ewo, elk, ⟨ys, _, rfl, ⟨t3, .ref da, rfl, e3', rv.kt k05⟩, encD_kt k05 er⟩, rdv.kt k05, SqT.of e5, .body hg, fun H7 x7 st7 s7 l7 => ?_, fun H7 x7 f7 e7 l7 => ?_⟩
            · walk_at "g"
              exact q1 H7 _ _ s7 l7
            · walk_at "g"
              exact q2 H7 _ _ e7 l7
          · have hi : bb.length ≤ i := by
              have := of_decide_eq_false hc
              omega
            walk_at "g"
            walk_at "no"
            walk_at "no"
            exact q1 H2 _ _ (.over hi) ⟨⟨h2, rfu.kt k02, esd, ecs, efl, ecl, enm, een⟩, ⟨elk, ewo, encD_kt k02 er⟩⟩
      | again pp bb r =>
        obtain ⟨ys, _, el, ⟨ua, v1, rfl, hua, rv⟩, er⟩ := he
        rw [el] at lws
        have hx : x = { x with ws := ys ++ [.ref ua] } := by rw [← el]
        rw [hx] at h
        have lys : ys.length ≤ 4000000 := by simp at lws; omega
        walk_at "go"
        rw [elk]
        walk_at "no"
        refine ⟨szle (by simp), fun t1 H1 _ e1 c1 => ?_⟩
        have h1 := h.ch c1
        have hw1 : SqL K H1 x.wt (ys ++ [V.ref ua]) := SqL.of h1.hw
        walk_at "g"
        refine tkF (by simp) ?_
        walk_at "g"
        refine ⟨_, _, V.ref ua, rfl, rfl, h1.hw, by simp, ?_⟩
        rw [List.dropLast_concat]
        have h2 := h1.wait ys
        have k2 : Kt K H1 (upd H1 x.wt (.lst ys)) := (Ch.wr (S := [x.wt]) h1.hw rfl (by simp)).kt
        generalize upd H1 x.wt (.lst ys) = H2 at h2 k2 ⊢
        have k02 := c1.kt.trans k2
        have hua2 := k02.t _ _ hua
        walk_at "g"
        walk_at "no"
        refine g_mid (fun b H' => b = false ∧ H' = H2) ?_ ?_
        · walk_at "g"
          exact tkF rfl ⟨rfl, rfl⟩
        · rintro _ H3 ⟨rfl, e3⟩
          rw [e3]
          walk_at "no"
          walk_at "yes"
          refine ⟨szle (by simp), fun t5 H5 _ e5 c5 => ?_⟩
          have h5 := h2.ch c5
          have k05 := k02.trans c5.kt
          walk_at "g"
          refine ⟨H0, wa, { x with ws := ys }, t5, _, .d (.whl pp bb), [], .inr r, ps, _, fs, rfl, ⟨h5, rfu.kt k05, esd, ecs, efl, ecl, enm, een⟩, wf, W, hsz, ewo, elk, encD_kt k05 er, rv.kt k05, SqT.of e5, .again, fun H7 x7 st7 s7 l7 => ?_, fun H7 x7 f7 e7 l7 => ?_⟩
          · walk_at "g"
            exact q1 H7 _ _ s7 l7
          · walk_at "g"
            exact q2 H7 _ _ e7 l7
    | ret v s =>
      obtain ⟨elk, ewo, he⟩ := ct
      cases s with
      | nil =>
        obtain ⟨el, eb⟩ := he
        rw [el] at lws
        have hx : x = { x with ws := [] } := by rw [← el]
        rw [hx] at h
        walk_at "go"
        rw [elk]
        walk_at "no"
        refine ⟨szle (by simp), fun t1 H1 _ e1 c1 => ?_⟩
        have h1 := h.ch c1
        have hw1 : SqL K H1 x.wt [] := SqL.of h1.hw
        walk_at "g"
        walk_at "yes"
        rw [ewo]
        walk_at "no"
        refine ⟨szle (by simp), fun t2 H2 _ e2 c2 => ?_⟩
        have h2 := h1.ch c2
        walk_at "g"
        refine g_dput { x with ws := [], en := .ref t2 } h2 (h2.put _) fun H3 k3 h3 => ?_
        have hca : ca = 0 := wf.c.2.2
        subst hca
        have e2' : H2 t2 = some (.tup [.str "worth", .int v]) := by
          rw [e2, ← ewo]
        exact q2 H3 _ _ .ret ⟨h3, esd, ecs, t2, rfl, k3.t _ _ (SqT.of e2')⟩
      | back ns r =>
        obtain ⟨ys, _, na, bs', el, ⟨ua, rfl, hua⟩, eb, er⟩ := he
        obtain ⟨c', rfl, _⟩ : ∃ c', ca = c' + 1 ∧ True := by
          obtain ⟨c', e, _⟩ := wf.c.2.2
          exact ⟨c', e, trivial⟩
        rw [el] at lws
        have hx : x = { x with ws := ys ++ [.ref ua] } := by rw [← el]
        rw [hx] at h
        have lys : ys.length ≤ 4000000 := by simp at lws; omega
        walk_at "go"
        rw [elk]
        walk_at "no"
        refine ⟨szle (by simp), fun t1 H1 _ e1 c1 => ?_⟩
        have h1 := h.ch c1
        have hw1 : SqL K H1 x.wt (ys ++ [V.ref ua]) := SqL.of h1.hw
        walk_at "g"
        refine tkF (by simp) ?_
        walk_at "g"
        refine ⟨_, _, V.ref ua, rfl, rfl, h1.hw, by simp, ?_⟩
        rw [List.dropLast_concat]
        have h2 := h1.wait ys
        have k2 : Kt K H1 (upd H1 x.wt (.lst ys)) := (Ch.wr (S := [x.wt]) h1.hw rfl (by simp)).kt
        generalize upd H1 x.wt (.lst ys) = H2 at h2 k2 ⊢
        have k02 := c1.kt.trans k2
        have hua2 := k02.t _ _ hua
        walk_at "g"
        walk_at "yes"
        refine ⟨szle (by simp), fun t3 H3 _ e3 c3 => ?_⟩
        have h3 := h2.ch c3
        walk_at "g"
        have h3b : ({ x with ws := ys } : LD).bs = (na, ns) :: bs' := eb
        refine g_dput { x with ws := ys, na := na, nm := ns, bs := bs', cl := x.cl } h3 (h3.back h3b) fun H4 k4 h4 => ?_
        walk_at "g"
        refine g_dput { x with ws := ys, na := na, nm := ns, bs := bs', cl := x.cl - 1 } h4 (h4.put _) fun H5 k5 h5 => ?_
        walk_at "g"
        rw [ewo]
        walk_at "no"
        refine g_dput { x with ws := ys, na := na, nm := ns, bs := bs', cl := x.cl - 1, wo := x.wo } h5 (h5.put _) fun H6 k6 h6 => ?_
        have k06 := k02.trans (c3.kt.trans (k4.trans (k5.trans k6)))
        exact q1 H6 _ _ .retBack ⟨⟨h6, rfu.kt k06, esd, ecs, efl, by simp only [ecl]; omega, rfl, een⟩, ⟨elk, ewo, encV_kt k06 er⟩⟩
      | body bb i r => exact wf.c.2.1.elim
      | again pp bb r => exact wf.c.2.1.elim
end
end K3
end

section
set_option maxRecDepth 100000
set_option maxHeartbeats 1000000
open Bq L2
/-- one step of a reading; what is left are side goals and places to think -/
local macro_rules | `(tactic| walk_at "g1") => `(tactic| first
  | with_reducible refine' g_seq ?_ | with_reducible refine' g_asg ?_ | with_reducible refine' g_drop ?_ | with_reducible refine' g_ret ?_ | with_reducible refine' g_ifS ?_ | with_reducible refine' g_asgG ?_
  | ((with_reducible refine' g_var ?hv ?_); (case hv => rfl))
  | with_reducible refine' g_c ?_ | with_reducible refine' g_op ?_ | with_reducible refine' g_un ?_ | with_reducible refine' g_I0 ?_ | with_reducible refine' g_U ?_
  | with_reducible refine' g_test ?_ | with_reducible refine' g_tB ?_ | with_reducible refine Exists.intro _ (And.intro rfl ?_) 
  | ((with_reducible refine' g_andP ?ha ?hb ?_); (case ha => intro R q; walk_at "g"; exact q); (case hb => intro R q; walk_at "g"; exact q))
  | ((with_reducible refine' g_orP ?ha ?hb ?_); (case ha => intro R q; walk_at "g"; exact q); (case hb => intro R q; walk_at "g"; exact q))
  | with_reducible refine' g_and ?_ | with_reducible refine' g_or ?_ | with_reducible refine' g_not ?_
  | with_reducible refine' g_andV ?_ | with_reducible refine' g_orV ?_ | with_reducible refine' g_notV ?_ | with_reducible refine' g_if ?_ | with_reducible refine' g_nil ?_ | with_reducible refine' g_cons ?_
  | with_reducible refine' g_tup ?_ | with_reducible refine' g_lst ?_ | with_reducible refine' g_CB ?_ | with_reducible refine' g_Fn ?_ | with_reducible refine' g_next ?_ | with_reducible refine' g_retN ?_
  | with_reducible refine' g_name ?_ | with_reducible refine' g_sub ?_
  | ((with_reducible refine' g_ixL ?hs ?he ?_); (case hs => walk_at "lk"); (case he => walk_at "at"))
  | ((with_reducible refine' g_ixT ?hs ?he ?_); (case hs => walk_at "lk"); (case he => walk_at "at"))
  | ((with_reducible refine' g_setL ?hs ?he ?_); (case hs => walk_at "hp"); (case he => rfl))
  | ((with_reducible refine' g_app ?hs ?hz ?_); (case hs => walk_at "hp"); (case hz => walk_at "sz"))
  | ((with_reducible refine' ⟨_, _, rfl, Or.inl ?hs, ?_⟩); (case hs => walk_at "lk"))
  | ((with_reducible refine' ⟨_, _, rfl, Or.inr ?hs, ?_⟩); (case hs => walk_at "lk"))
  | with_reducible refine' g_BM ?_ | with_reducible refine' g_BM0 ?_ | ((with_reducible refine' g_tyL ?hs ?_); (case hs => walk_at "lk"))
  | with_reducible refine' g_sl ?_ | with_reducible refine' g_noPart ?_ | with_reducible refine' g_part ?_
  | ((with_reducible refine' g_inT ?hs ?fx ?fs ?_); (case hs => walk_at "lk"); (case fx => rfl); (case fs => rfl))
  | with_reducible refine' g_pair ?_ | with_reducible refine' g_pair0 ?_ | with_reducible refine' g_disp ?_
  | with_reducible refine' g_for ?_ | with_reducible refine' g_tupC ?_ | with_reducible refine' g_lstC ?_ | ((with_reducible refine' g_lens ?_)) | with_reducible refine' g_dg ?_ | with_reducible refine' g_lc ?_ | with_reducible refine' g_rng1 ?_ | with_reducible refine' g_ilist ?_ | with_reducible refine' g_itup ?_
  | ((with_reducible refine' ⟨_, _, rfl, ?hd, ?_⟩); (case hd => walk_at "dg"))
  | ((with_reducible refine' g_eqNil ?hs ?hz ?_); (case hs => walk_at "lk"); (case hz => walk_at "lk"))
  | ((with_reducible refine' g_neNil ?hs ?hz ?_); (case hs => walk_at "lk"); (case hz => walk_at "lk"))
  | with_reducible refine Or.inl ⟨_, rfl, ?_⟩
  | with_reducible refine Or.inr ⟨_, rfl, ?_⟩
  | ((with_reducible refine' g_eq ?hs ?_); (case hs => rfl))
  | ((with_reducible refine' g_ne ?hs ?_); (case hs => rfl))
  | ((with_reducible refine' g_I ?hc ?_); (case hc => walk_at "ar")))
/-- arithmetic's side conditions -/
local macro_rules | `(tactic| walk_at "ar") => `(tactic| (first
  | (show (0 : Int) < _; first | omega | decide) | (show (0 : Int) < _ ∧ _; constructor <;> omega) | (show ¬ (_ : Int) = _; omega) | (show (_ : Int) ≠ _ ∧ _; constructor <;> omega)
  | (show (-(2 ^ 64) < _ ∧ _) ∨ _; (first | (left; constructor <;> omega) | (right; constructor <;> omega))) | (show (0 : Int) ≤ _ ∧ _ ∧ _; refine ⟨by omega, by omega, by decide⟩)))
/-- what stands at an index -/
local macro_rules | `(tactic| walk_at "at") => `(tactic| first | rfl | assumption)
/-- what stands at an address -/
local macro_rules | `(tactic| walk_at "hp") => `(tactic| first | assumption | exact upd_same | ((refine' Eq.trans (upd_ne ?hn) ?hm); (case hm => walk_at "hp"); (case hn => walk_at "ne")))
/-- two places are two -/
local macro_rules | `(tactic| walk_at "ne") => `(tactic| first
  | assumption | exact Ne.symm (by assumption)
  | ((refine' ne_of_none ?ha ?hb); (case hb => assumption); (case ha => walk_at "hp")) | ((refine' Ne.symm (ne_of_none ?ha ?hb)); (case hb => assumption); (case ha => walk_at "hp")))
/-- what a dict tells -/
local macro_rules | `(tactic| walk_at "dg") => `(tactic| first | assumption)
/-- a length -/
local macro_rules | `(tactic| walk_at "sz") => `(tactic| first | (show _ ≤ sizeLine; decide) | (show _ < sizeLine; decide) | assumption | exact szlt (by simp) | exact szle (by simp))
/-- a list or tuple that stands -/
local macro_rules | `(tactic| walk_at "lk") => `(tactic| first | assumption | exact SqL.of (by assumption) | exact SqT.of (by assumption) | exact SqL.of upd_same | exact SqT.of upd_same | (refine' FzL.sq ?hm; (case hm => walk_at "fz")))
/-- a list that nobody writes -/
local macro_rules | `(tactic| walk_at "fz") => `(tactic| first | assumption | ((refine' FzL.uw ?hm ?hx); (case hx => walk_at "hp"); (case hm => walk_at "fz")) | ((refine' FzL.nw ?hm ?hx); (case hx => assumption); (case hm => walk_at "fz")))
/-- as far as it goes by itself -/
local macro_rules | `(tactic| walk_at "g") => `(tactic| repeat walk_at "g1")
/-- the body's reading, its places in short -/
local macro_rules | `(tactic| walk_at "go") => `(tactic| ((try dsimp only [cxOf, Cx.nox, Cx.wish]); walk_at "g"))
namespace K3
open PySem PySem.Spec PyProof.Rows L2 Bq
section
variable {P : Program} {w : World} {K : PySem.W.Frag} {mg : Str → Option Value} {base : Heap}
/-- further steps: dicts written, tuples taken apart -/
local macro_rules | `(tactic| walk_at "g1") => `(tactic| first
  | with_reducible refine' g_sdput ?_
  | ((with_reducible refine' g_gtup ?hs ?hl ?_); (case hs => walk_at "lk"); (case hl => rfl))
  | with_reducible refine' g_gcons ?_
  | with_reducible refine' g_gnil ?_
  | with_reducible refine' And.intro (Eq.refl V.non) ?_
  | with_reducible refine' g_isN ?_
  | ((with_reducible refine' g_chainR ?ha ?hb ?hc ?_); (case ha => intro R q; walk_at "g"; exact q); (case hb => intro R q; walk_at "g"; exact q); (case hc => intro R q; walk_at "g"; exact q))
  | with_reducible refine' g_notN ?_)
/-- what the law's dict tells -/
local macro_rules | `(tactic| walk_at "dg") => `(tactic| first
  | assumption
  | exact LH.gfuns (by assumption)
  | exact LH.gsaid (by assumption)
  | exact LH.gcells (by assumption)
  | exact LH.gfuel (by assumption)
  | exact LH.gend (by assumption)
  | exact LH.gcalls (by assumption)
  | exact LH.gnames (by assumption)
  | exact LH.gwaits (by assumption)
  | exact LH.gworth (by assumption)
  | exact LH.glook (by assumption))
/-- a test that fails, that holds, by itself -/
local macro_rules | `(tactic| walk_at "no") => `(tactic| ((refine tkF rfl ?_); walk_at "g"))
local macro_rules | `(tactic| walk_at "yes") => `(tactic| ((refine tkT rfl ?_); walk_at "g"))
/-! ### the law's own reckoning -/
def st0 (f0 : Fu) (fu : Nat) : Bq.St := ⟨[], List.replicate 64 0, fu, 0, List.replicate f0.nm 0, .go (.body f0.body 0 .nil)⟩
def spFresh (K : PySem.W.Frag) : Sp := fun vs H Q _ => ∃ pgv, ∃ (fu : Nat) (fs : List Fu) (f0 : Fu), vs = [pgv, .int (fu : Nat)] ∧ Rep K H pgv (.tup (fs.map encF)) ∧ fs[0]? = some f0 ∧ f0.nm ≤ 8 ∧
  ∀ H' wa x, Ch K [] H H' → LS K H H' wa fs x (st0 f0 fu) → Q (.ref wa) H'
theorem rep_flat (n : Nat) : (List.replicate n [V.int 0]).flatten = iv (List.replicate n 0) := by
  unfold iv
  rw [List.map_replicate, List.flatten_replicate_singleton]
theorem fn_fresh (C : Cn w K mg base) : Fn P w K mg base CX0 2 "_law_fresh" ["_law_program_here", "_law_fuel_here"] (spFresh K) := C.f_law_fresh fun fd F => by
  refine F.ok (CX := CX0) sc_law_fresh (fun vs H Q E h => ?_) (fun cdv A outer s H vs Q E hr h => ?_)
  · obtain ⟨pgv, fu, fs, f0, rfl, _⟩ := h
    rfl
  · obtain ⟨pgv, fu, fs, f0, rfl, rp, hf, hn8, q⟩ := h
    have hu := hu_of (rmm (j := 1) hr)
    refine ⟨_, PSs.nox (pss_cons (ps_set (i := 2) sc_law_fresh.nd rfl (Or.inl rfl) (pe_disp (pps_cons pe_str (pv 0) (pps_cons pe_str (pe_lstC pa_nil) (pps_cons pe_str (pe_op op_repL (pe_lstC (pa_cons pe_int pa_nil)) pe_int) (pps_cons pe_str (pv 1) (pps_cons pe_str pe_non (pps_cons pe_str pe_int pps_nil)))))) (by rfl) (by rfl) (fun z => by cases z) (by decide)))
      (pss_cons (ps_expr (pe_bm PySem.F.plainAttrs_dict PySem.F.slot_dict_update PySem.F.type_dict_update mt_dupd (pv 2) (pa_cons (pe_disp (pps_cons pe_str (pe_op op_repL (pe_lstC (pa_cons pe_int pa_nil)) (pe_ix ix_tup (pe_ix ix_tup (pv 0) pe_int (fun _ _ => rfl)) pe_int (fun _ _ => rfl))) (pps_cons pe_str (pe_lstC (pa_cons (pe_tupC (pa_cons pe_str (pa_cons (pe_ix ix_tup (pe_ix ix_tup (pv 0) pe_int (fun _ _ => rfl)) pe_int (fun _ _ => rfl)) (pa_cons pe_int pa_nil)))) pa_nil)) (pps_cons pe_str pe_non (pps_cons pe_str pe_non pps_nil)))) (by rfl) (by rfl) (fun z => by cases z) (by decide)) pa_nil)))
      (pss_one (ps_ret (pv 2))))), ?_⟩
    obtain ⟨pa, pvs, rfl, hpa, rps⟩ := rp.tupI
    obtain ⟨fv, hfv, rfv⟩ := rps.getT (i := 0) (t := encF f0) (by rw [List.getElem?_map, hf]; rfl)
    have hat : atI pvs 0 = some fv := atI_nat (j := 0) hfv
    obtain ⟨ga, gvs, rfl, hga, rgs⟩ := rfv.tupI
    obtain ⟨g0, gr, rfl, r0, rgs⟩ := rgs.consI
    obtain ⟨g1, gr, rfl, r1, rgs⟩ := rgs.consI
    obtain ⟨g2, gr, rfl, r2, rgs⟩ := rgs.consI
    obtain rfl := rgs.nilI
    obtain rfl := r0.intI
    obtain rfl := r1.intI
    walk_at "go"
    refine fun wa nwa => ?_
    have c0 : Ch K [] H (upd H wa (.dK [])) := Ch.new nwa
    have e0 : (upd H wa (.dK [])) wa = some (.dK []) := upd_same
    generalize upd H wa (.dK []) = H1 at c0 e0 ⊢
    walk_at "g"
    refine ⟨szle (by simp), fun sa H2 nsa esa c2 => ?_⟩
    walk_at "g"
    refine ⟨szle (by simp), fun l3 H3 n3 e3 c3 => ?_⟩
    walk_at "g"
    refine ⟨_, _, _, rfl, rfl, e3, by decide, by decide, szle (by simp), fun ca H4 nca eca c4 => ?_⟩
    have eca' : H4 ca = some (.lst (iv (List.replicate 64 0))) := by rw [eca]; exact congrArg (fun l => some (HO.lst l)) (rep_flat 64)
    have ewa4 := (c2.trans (c3.trans c4)).up _ _ e0 (by simp)
    walk_at "g"
    refine ⟨ewa4, [(Sum.inr "funs", .ref pa), (Sum.inr "said", .ref sa), (Sum.inr "cells", .ref ca), (Sum.inr "fuel", .int (fu : Nat)), (Sum.inr "end", .non), (Sum.inr "calls", .int 0)], rfl, by simp, ?_⟩
    have kd : Ch K [] H (upd H4 wa (.dK (mergeK [] [(Sum.inr "funs", .ref pa), (Sum.inr "said", .ref sa), (Sum.inr "cells", .ref ca), (Sum.inr "fuel", .int (fu : Nat)), (Sum.inr "end", .non), (Sum.inr "calls", .int 0)]))) :=
      Ch.wrN (c0.trans (c2.trans (c3.trans c4))) nwa ewa4 rfl
    have k45 : Ch K [wa] H4 (upd H4 wa (.dK (mergeK [] [(Sum.inr "funs", .ref pa), (Sum.inr "said", .ref sa), (Sum.inr "cells", .ref ca), (Sum.inr "fuel", .int (fu : Nat)), (Sum.inr "end", .non), (Sum.inr "calls", .int 0)]))) := Ch.wr ewa4 rfl (by simp)
    have ewa5 : (upd H4 wa (.dK (mergeK [] [(Sum.inr "funs", .ref pa), (Sum.inr "said", .ref sa), (Sum.inr "cells", .ref ca), (Sum.inr "fuel", .int (fu : Nat)), (Sum.inr "end", .non), (Sum.inr "calls", .int 0)]))) wa =
      some (.dK [(Sum.inr "funs", .ref pa), (Sum.inr "said", .ref sa), (Sum.inr "cells", .ref ca), (Sum.inr "fuel", .int (fu : Nat)), (Sum.inr "end", .non), (Sum.inr "calls", .int 0)]) := upd_same
    generalize upd H4 wa (.dK (mergeK [] [(Sum.inr "funs", .ref pa), (Sum.inr "said", .ref sa), (Sum.inr "cells", .ref ca), (Sum.inr "fuel", .int (fu : Nat)), (Sum.inr "end", .non), (Sum.inr "calls", .int 0)])) = H5 at kd k45 ewa5 ⊢
    have nsaw : sa ≠ wa := (ne_of_none e0 nsa).symm
    have ncaw : ca ≠ wa := (ne_of_none ((c2.trans c3).up _ _ e0 (by simp)) nca).symm
    have esa4 := (c3.trans c4).up _ _ esa (by simp)
    have nsc : sa ≠ ca := ne_of_none (c3.up _ _ esa (by simp)) nca
    have esa5 := k45.up _ _ esa4 (by simp [nsaw])
    have eca5 := k45.up _ _ eca' (by simp [ncaw])
    have hpa5 := kd.sqT hpa
    have hga5 := kd.sqT hga
    have H0sa : H sa = none := (c0).free nsa (by simp)
    have H0ca : H ca = none := (c0.trans (c2.trans c3)).free nca (by simp)
    walk_at "g"
    refine ⟨.inr (.inr (.inl ⟨rfl, .inl ⟨_, ewa5⟩⟩)), ?_⟩
    walk_at "g"
    refine fun da nda => ?_
    have c5 : Ch K [] H5 (upd H5 da (.dK [])) := Ch.new nda
    have e5 : (upd H5 da (.dK [])) da = some (.dK []) := upd_same
    generalize upd H5 da (.dK []) = H6 at c5 e5 ⊢
    have hpa6 := c5.sqT hpa5
    have hga6 := c5.sqT hga5
    walk_at "g"
    refine ⟨szle (by simp), fun l7 H7 n7 e7 c7 => ?_⟩
    have hpa7 := c7.sqT hpa6
    have hga7 := c7.sqT hga6
    walk_at "g"
    refine ⟨_, _, _, rfl, rfl, e7, by omega, by omega, szle (by simp; omega), fun na H8 nna ena c8 => ?_⟩
    have ena' : H8 na = some (.lst (iv (List.replicate f0.nm 0))) := by rw [ena, Int.toNat_natCast]; exact congrArg (fun l => some (HO.lst l)) (rep_flat f0.nm)
    have hpa8 := c8.sqT hpa7
    have hga8 := c8.sqT hga7
    walk_at "g"
    refine ⟨szle (by simp), fun t9 H9 _ e9 c9 => ?_⟩
    walk_at "g"
    refine ⟨szle (by simp), fun wt H10 nwt ewt c10 => ?_⟩
    walk_at "g"
    have eda10 := (c7.trans (c8.trans (c9.trans c10))).up _ _ e5 (by simp)
    have ewa10 := (c5.trans (c7.trans (c8.trans (c9.trans c10)))).up _ _ ewa5 (by simp)
    have wad : wa ≠ da := ne_of_none ewa5 nda
    refine ⟨eda10, [(Sum.inr "names", .ref na), (Sum.inr "waits", .ref wt), (Sum.inr "worth", .non), (Sum.inr "look", .non)], rfl, by simp, ?_⟩
    walk_at "g"
    have esa10 := (c5.trans (c7.trans (c8.trans (c9.trans c10)))).up _ _ esa5 (by simp)
    have eca10 := (c5.trans (c7.trans (c8.trans (c9.trans c10)))).up _ _ eca5 (by simp)
    have ena10 := (c9.trans c10).up _ _ ena' (by simp)
    have k511 : Ch K [] H5 (upd H10 da (.dK (mergeK [] [(Sum.inr "names", .ref na), (Sum.inr "waits", .ref wt), (Sum.inr "worth", .non), (Sum.inr "look", .non)]))) := Ch.wrN (c5.trans (c7.trans (c8.trans (c9.trans c10)))) nda eda10 rfl
    have c1011 : Ch K [da] H10 (upd H10 da (.dK (mergeK [] [(Sum.inr "names", .ref na), (Sum.inr "waits", .ref wt), (Sum.inr "worth", .non), (Sum.inr "look", .non)]))) := Ch.wr eda10 rfl (by simp)
    have eda11 : (upd H10 da (.dK (mergeK [] [(Sum.inr "names", .ref na), (Sum.inr "waits", .ref wt), (Sum.inr "worth", .non), (Sum.inr "look", .non)]))) da = some (.dK [(Sum.inr "names", .ref na), (Sum.inr "waits", .ref wt), (Sum.inr "worth", .non), (Sum.inr "look", .non)]) := upd_same
    generalize upd H10 da (.dK (mergeK [] [(Sum.inr "names", .ref na), (Sum.inr "waits", .ref wt), (Sum.inr "worth", .non), (Sum.inr "look", .non)])) = H11 at k511 c1011 eda11 ⊢
    have ewa11 := k511.up _ _ ewa5 (by simp)
    have esa11 := k511.up _ _ esa5 (by simp)
    have eca11 := k511.up _ _ eca5 (by simp)
    have dn : ∀ {a : Addr} {xs : List V}, H10 a = some (.lst xs) → a ∉ [da] := fun e => by
      have := ne_of e eda10 (by intro z; cases z)
      simpa using this
    have ena11 := c1011.up _ _ ena10 (dn ena10)
    have ewt11 := c1011.up _ _ ewt (dn ewt)
    have nsn : sa ≠ na := ne_of_none ((c5.trans c7).up _ _ esa5 (by simp)) nna
    have ncn : ca ≠ na := ne_of_none ((c5.trans c7).up _ _ eca5 (by simp)) nna
    have nst : sa ≠ wt := ne_of_none ((c5.trans (c7.trans (c8.trans c9))).up _ _ esa5 (by simp)) nwt
    have nct : ca ≠ wt := ne_of_none ((c5.trans (c7.trans (c8.trans c9))).up _ _ eca5 (by simp)) nwt
    have nnt : na ≠ wt := ne_of_none (c9.up _ _ ena' (by simp)) nwt
    have H5na : H5 na = none := (c5.trans c7).free nna (by simp)
    have H5wt : H5 wt = none := (c5.trans (c7.trans (c8.trans c9))).free nwt (by simp)
    have kd11 := kd.trans k511
    refine ⟨wa, da, _, _, rfl, rfl, wad, ewa11, eda11, szle (by simp), ?_⟩
    walk_at "g"
    have kt1 : Kt K H11 (upd H11 wa (.dK (mergeK [(Sum.inr "funs", .ref pa), (Sum.inr "said", .ref sa), (Sum.inr "cells", .ref ca), (Sum.inr "fuel", .int (fu : Nat)), (Sum.inr "end", .non), (Sum.inr "calls", .int 0)] [(Sum.inr "names", .ref na), (Sum.inr "waits", .ref wt), (Sum.inr "worth", .non), (Sum.inr "look", .non)]))) := (Ch.wr (S := [wa]) ewa11 rfl (by simp)).kt
    have cF : Ch K [] H (upd H11 wa (.dK (mergeK [(Sum.inr "funs", .ref pa), (Sum.inr "said", .ref sa), (Sum.inr "cells", .ref ca), (Sum.inr "fuel", .int (fu : Nat)), (Sum.inr "end", .non), (Sum.inr "calls", .int 0)] [(Sum.inr "names", .ref na), (Sum.inr "waits", .ref wt), (Sum.inr "worth", .non), (Sum.inr "look", .non)]))) := Ch.wrN kd11 nwa ewa11 rfl
    have wn : ∀ {a : Addr} {xs : List V}, H11 a = some (.lst xs) → a ≠ wa := fun e => ne_of e ewa11 (by intro z; cases z)
    refine q _ wa ⟨.ref pa, sa, ca, na, wt, (fu : Nat), 0, .non, .non, .non, [], List.replicate 64 0, List.replicate f0.nm 0, [.ref t9], []⟩ cF ⟨⟨⟨cF, upd_same, ?_, ?_, ?_, ?_, (fun p hp => by cases hp), nwa, ?_, ?_⟩, (Rep.tup hpa rps).kt cF.kt, rfl, rfl, rfl, rfl, rfl, rfl⟩, ?_⟩
    · rw [upd_ne (wn esa11)]; exact esa11
    · rw [upd_ne (wn eca11)]; exact eca11
    · rw [upd_ne (wn ena11)]; exact ena11
    · rw [upd_ne (wn ewt11)]; exact ewt11
    · intro a ha
      simp only [LD.as, List.map_nil, List.mem_cons, List.not_mem_nil, or_false] at ha
      rcases ha with rfl | rfl | rfl | rfl
      · exact H0sa
      · exact H0ca
      · exact kd.free H5na (by simp)
      · exact kd.free H5wt (by simp)
    · simp only [LD.as, List.map_nil, List.nodup_cons, List.mem_cons, List.not_mem_nil, or_false, not_or]
      exact ⟨⟨nsc, nsn, nst⟩, ⟨ncn, nct⟩, nnt, id, List.nodup_nil⟩
    · have kk : Kt K H9 (upd H11 wa (.dK (mergeK [(Sum.inr "funs", .ref pa), (Sum.inr "said", .ref sa), (Sum.inr "cells", .ref ca), (Sum.inr "fuel", .int (fu : Nat)), (Sum.inr "end", .non), (Sum.inr "calls", .int 0)] [(Sum.inr "names", .ref na), (Sum.inr "waits", .ref wt), (Sum.inr "worth", .non), (Sum.inr "look", .non)]))) := c10.kt.trans (c1011.kt.trans kt1)
      exact ⟨rfl, rfl, [], .ref t9, rfl, ⟨t9, g2, rfl, kk.t _ _ (SqT.of e9), r2.kt cF.kt⟩, rfl, rfl⟩
theorem WfPr.ps (w : WfPr fs) : WfPs (fs.map Fu.ps) fs := ⟨rfl, fun f h => (w.all f h).pn, fun f h => (w.all f h).n8, fun f h => (w.all f h).wb, fun f h => (w.all f h).sz⟩
theorem st0_wf {fs : List Fu} {f0 : Fu} {fu : Nat} (W : WfPs (fs.map Fu.ps) fs) (h : fs[0]? = some f0) (hf : fu ≤ 3000) : WfSt (fs.map Fu.ps) (st0 f0 fu) ∧ (st0 f0 fu).said.length + left (st0 f0 fu) ≤ 4000000 := by
  have hm := List.mem_of_getElem? h
  have h1 := W.sz _ hm
  have r : ∀ {n : Nat}, ∀ v ∈ List.replicate n (0 : Int), InR v := fun v hv => by
    rw [(List.mem_replicate.mp hv).2]
    unfold InR
    omega
  refine ⟨⟨by simp [st0], r, r, ?_, hf, by simp [st0], ?_⟩, ?_⟩
  · show (List.replicate f0.nm (0 : Int)).length ≤ 8
    rw [List.length_replicate]
    exact W.n8 _ hm
  · show wfDS _ (List.replicate f0.nm (0 : Int)).length 0 (.body f0.body 0 .nil)
    rw [List.length_replicate]
    exact ⟨Nat.zero_le _, W.wb _ hm, h1, rfl⟩
  · simp only [st0, left, cC, cD, List.drop_zero, List.length_nil]
    omega
def spRun (K : PySem.W.Frag) : Sp := fun vs H Q _ => ∃ pgv, ∃ (fu : Nat) (fs : List Fu) (f0 : Fu), vs = [pgv, .int (fu : Nat)] ∧ Rep K H pgv (.tup (fs.map encF)) ∧ WfPr fs ∧ fs[0]? = some f0 ∧ fu ≤ 3000 ∧
  ∀ H' p sa ea ca fi, Ch K [] H H' → Run fs (st0 f0 fu) fi → H' p = some (.tup [.ref sa, .ref ea, .ref ca]) → H' sa = some (.lst (iv fi.said)) → SqT K H' ea (enV fi.en) → H' ca = some (.lst (iv fi.cells)) → Q (.ref p) H'
theorem fn_run (C : Cn w K mg base) : Fn P w K mg base CX0 6 "_law_run" ["_law_program_here", "_law_fuel_here"] (spRun K) := C.f_law_run fun fd F => by
  have F_law_fresh : Fn P w K mg base CX0 2 "_law_fresh" ["_law_program_here", "_law_fuel_here"] (spFresh K) := fn_fresh C
  have F_law_go : Fn P w K mg base CX0 5 "_law_go" ["_law_w"] (spGo K) := fn_go C
  refine F.ok (CX := CX0) sc_law_run (fun vs H Q E h => ?_) (fun cdv A outer s H vs Q E hr h => ?_)
  · obtain ⟨pgv, fu, fs, f0, rfl, _⟩ := h
    rfl
  · obtain ⟨pgv, fu, fs, f0, rfl, rp, W, hf, hfu, q⟩ := h
    have hu := hu_of (rmm (j := 1) hr)
    refine ⟨_, PSs.nox (pss_cons (ps_set (i := 2) sc_law_run.nd rfl (Or.inl rfl) (pe_fn F_law_fresh (rmm hr) (by rfl) pass0 (pa_cons (pv 0) (pa_cons (pv 1) pa_nil))))
      (pss_cons (ps_while PassesOwn.never (pt_cmpR op_isN (pe_dget hu (pv 2) pe_str (fun _ _ => rfl)) pe_non (nomark _)) (pss_one (ps_expr (pe_fn F_law_go (rmm hr) (by rfl) pass0 (pa_cons (pv 2) pa_nil)))))
      (pss_one (ps_ret (pe_tupC (pa_cons (pe_dget hu (pv 2) pe_str (fun _ _ => rfl)) (pa_cons (pe_dget hu (pv 2) pe_str (fun _ _ => rfl)) (pa_cons (pe_dget hu (pv 2) pe_str (fun _ _ => rfl)) pa_nil)))))))), ?_⟩
    have WP := W.ps
    obtain ⟨wf0, sz0⟩ := st0_wf WP hf hfu
    walk_at "go"
    refine ⟨pgv, fu, fs, f0, rfl, rp, hf, WP.n8 _ (List.mem_of_getElem? hf), fun H1 wa x1 c1 s1 => ?_⟩
    walk_at "g"
    refine g_while ⟨fun m σ' H' => σ' = List.set (L2.start ["_law_program_here", "_law_fuel_here", "_law_w"] [pgv, V.int (fu : Nat)]) 2 (some (V.ref wa)) ∧
      ((∃ st x, m = left st + 1 ∧ LS K H H' wa fs x st ∧ WfSt (fs.map Fu.ps) st ∧ st.said.length + left st ≤ 4000000 ∧ ∀ fi, Run fs st fi → Run fs (st0 f0 fu) fi) ∨ ∃ x fi, m = 0 ∧ LE K H H' wa x fi ∧ Run fs (st0 f0 fu) fi), ⟨_, rfl, .inl ⟨_, x1, rfl, s1, wf0, sz0, fun _ h => h⟩⟩, ?_⟩
    rintro m _ H2 ⟨rfl, ⟨st, x, rfl, s2, w2, z2, hr2⟩ | ⟨x, fi, rfl, l2, r2⟩⟩
    · have h2 := s2.h
      walk_at "g"
      rw [s2.en]
      refine tkT rfl ⟨_, fun σ' H' h => h, ?_⟩
      walk_at "g"
      refine ⟨H, wa, x, _, st, fs, rfl, s2, w2, WP, z2, fun H3 x3 st3 e3 s3 => ?_, fun H3 x3 f3 e3 l3 => ?_⟩
      · have lt := e3.lt WP w2
        walk_at "g"
        exact ⟨_, by have := lt.1; omega, rfl, .inl ⟨st3, x3, rfl, s3, e3.wf WP w2, Nat.le_trans lt.2 z2, fun fi h => hr2 fi (.step e3 h)⟩⟩
      · walk_at "g"
        exact ⟨0, by omega, rfl, .inr ⟨x3, f3, rfl, l3, hr2 _ (.fin e3)⟩⟩
    · have h2 := l2.h
      obtain ⟨ea, een, hea⟩ := l2.en
      walk_at "g"
      rw [een]
      walk_at "no"
      refine ⟨szle (by simp), fun p H3 _ e3 c3 => ?_⟩
      rw [een] at e3
      exact q H3 p _ ea _ fi (h2.c.trans c3) r2 e3 (by rw [← l2.sd]; exact c3.up _ _ h2.hs (by simp)) (c3.sqT hea) (by rw [← l2.cs]; exact c3.up _ _ h2.hc (by simp))
end
end K3
end

section
set_option maxRecDepth 100000
set_option maxHeartbeats 1000000
open Bq L2
/-- one step of a reading; what is left are side goals and places to think -/
local macro_rules | `(tactic| walk_at "g1") => `(tactic| first
  | with_reducible refine' g_seq ?_ | with_reducible refine' g_asg ?_ | with_reducible refine' g_drop ?_ | with_reducible refine' g_ret ?_ | with_reducible refine' g_ifS ?_ | with_reducible refine' g_asgG ?_
  | ((with_reducible refine' g_var ?hv ?_); (case hv => rfl))
  | with_reducible refine' g_c ?_ | with_reducible refine' g_op ?_ | with_reducible refine' g_un ?_ | with_reducible refine' g_I0 ?_ | with_reducible refine' g_U ?_
  | with_reducible refine' g_test ?_ | with_reducible refine' g_tB ?_ | with_reducible refine Exists.intro _ (And.intro rfl ?_) 
  | ((with_reducible refine' g_andP ?ha ?hb ?_); (case ha => intro R q; walk_at "g"; exact q); (case hb => intro R q; walk_at "g"; exact q))
  | ((with_reducible refine' g_orP ?ha ?hb ?_); (case ha => intro R q; walk_at "g"; exact q); (case hb => intro R q; walk_at "g"; exact q))
  | with_reducible refine' g_and ?_ | with_reducible refine' g_or ?_ | with_reducible refine' g_not ?_
  | with_reducible refine' g_andV ?_ | with_reducible refine' g_orV ?_ | with_reducible refine' g_notV ?_ | with_reducible refine' g_if ?_ | with_reducible refine' g_nil ?_ | with_reducible refine' g_cons ?_
  | with_reducible refine' g_tup ?_ | with_reducible refine' g_lst ?_ | with_reducible refine' g_CB ?_ | with_reducible refine' g_Fn ?_ | with_reducible refine' g_next ?_ | with_reducible refine' g_retN ?_
  | with_reducible refine' g_name ?_ | with_reducible refine' g_sub ?_
  | ((with_reducible refine' g_ixL ?hs ?he ?_); (case hs => walk_at "lk"); (case he => walk_at "at"))
  | ((with_reducible refine' g_ixT ?hs ?he ?_); (case hs => walk_at "lk"); (case he => walk_at "at"))
  | ((with_reducible refine' g_setL ?hs ?he ?_); (case hs => walk_at "hp"); (case he => rfl))
  | ((with_reducible refine' g_app ?hs ?hz ?_); (case hs => walk_at "hp"); (case hz => walk_at "sz"))
  | ((with_reducible refine' ⟨_, _, rfl, Or.inl ?hs, ?_⟩); (case hs => walk_at "lk"))
  | ((with_reducible refine' ⟨_, _, rfl, Or.inr ?hs, ?_⟩); (case hs => walk_at "lk"))
  | with_reducible refine' g_BM ?_ | with_reducible refine' g_BM0 ?_ | ((with_reducible refine' g_tyL ?hs ?_); (case hs => walk_at "lk"))
  | with_reducible refine' g_sl ?_ | with_reducible refine' g_noPart ?_ | with_reducible refine' g_part ?_
  | ((with_reducible refine' g_inT ?hs ?fx ?fs ?_); (case hs => walk_at "lk"); (case fx => rfl); (case fs => rfl))
  | with_reducible refine' g_pair ?_ | with_reducible refine' g_pair0 ?_ | with_reducible refine' g_disp ?_
  | with_reducible refine' g_for ?_ | with_reducible refine' g_tupC ?_ | with_reducible refine' g_lstC ?_ | ((with_reducible refine' g_lens ?_)) | with_reducible refine' g_dg ?_ | with_reducible refine' g_lc ?_ | with_reducible refine' g_rng1 ?_ | with_reducible refine' g_ilist ?_ | with_reducible refine' g_itup ?_
  | ((with_reducible refine' ⟨_, _, rfl, ?hd, ?_⟩); (case hd => walk_at "dg"))
  | ((with_reducible refine' g_eqNil ?hs ?hz ?_); (case hs => walk_at "lk"); (case hz => walk_at "lk"))
  | ((with_reducible refine' g_neNil ?hs ?hz ?_); (case hs => walk_at "lk"); (case hz => walk_at "lk"))
  | with_reducible refine Or.inl ⟨_, rfl, ?_⟩
  | with_reducible refine Or.inr ⟨_, rfl, ?_⟩
  | ((with_reducible refine' g_eq ?hs ?_); (case hs => rfl))
  | ((with_reducible refine' g_ne ?hs ?_); (case hs => rfl))
  | ((with_reducible refine' g_I ?hc ?_); (case hc => walk_at "ar")))
/-- arithmetic's side conditions -/
local macro_rules | `(tactic| walk_at "ar") => `(tactic| (first
  | (show (0 : Int) < _; first | omega | decide) | (show (0 : Int) < _ ∧ _; constructor <;> omega) | (show ¬ (_ : Int) = _; omega) | (show (_ : Int) ≠ _ ∧ _; constructor <;> omega)
  | (show (-(2 ^ 64) < _ ∧ _) ∨ _; (first | (left; constructor <;> omega) | (right; constructor <;> omega))) | (show (0 : Int) ≤ _ ∧ _ ∧ _; refine ⟨by omega, by omega, by decide⟩)))
/-- what stands at an index -/
local macro_rules | `(tactic| walk_at "at") => `(tactic| first | rfl | assumption)
/-- what stands at an address -/
local macro_rules | `(tactic| walk_at "hp") => `(tactic| first | assumption | exact upd_same | ((refine' Eq.trans (upd_ne ?hn) ?hm); (case hm => walk_at "hp"); (case hn => walk_at "ne")))
/-- two places are two -/
local macro_rules | `(tactic| walk_at "ne") => `(tactic| first
  | assumption | exact Ne.symm (by assumption)
  | ((refine' ne_of_none ?ha ?hb); (case hb => assumption); (case ha => walk_at "hp")) | ((refine' Ne.symm (ne_of_none ?ha ?hb)); (case hb => assumption); (case ha => walk_at "hp")))
/-- what a dict tells -/
local macro_rules | `(tactic| walk_at "dg") => `(tactic| first | assumption)
/-- a length -/
local macro_rules | `(tactic| walk_at "sz") => `(tactic| first | (show _ ≤ sizeLine; decide) | (show _ < sizeLine; decide) | assumption | exact szlt (by simp) | exact szle (by simp))
/-- a list or tuple that stands -/
local macro_rules | `(tactic| walk_at "lk") => `(tactic| first | assumption | exact SqL.of (by assumption) | exact SqT.of (by assumption) | exact SqL.of upd_same | exact SqT.of upd_same | (refine' FzL.sq ?hm; (case hm => walk_at "fz")))
/-- a list that nobody writes -/
local macro_rules | `(tactic| walk_at "fz") => `(tactic| first | assumption | ((refine' FzL.uw ?hm ?hx); (case hx => walk_at "hp"); (case hm => walk_at "fz")) | ((refine' FzL.nw ?hm ?hx); (case hx => assumption); (case hm => walk_at "fz")))
/-- as far as it goes by itself -/
local macro_rules | `(tactic| walk_at "g") => `(tactic| repeat walk_at "g1")
/-- the body's reading, its places in short -/
local macro_rules | `(tactic| walk_at "go") => `(tactic| ((try dsimp only [cxOf, Cx.nox, Cx.wish]); walk_at "g"))
namespace K3
open PySem PySem.Spec PyProof.Rows L2 Bq
section
variable {P : Program} {w : World} {K : PySem.W.Frag} {mg : Str → Option Value} {base : Heap}
/-- further steps: dicts written, tuples taken apart -/
local macro_rules | `(tactic| walk_at "g1") => `(tactic| first
  | with_reducible refine' g_sdput ?_
  | ((with_reducible refine' g_gtup ?hs ?hl ?_); (case hs => walk_at "lk"); (case hl => rfl))
  | with_reducible refine' g_gcons ?_
  | with_reducible refine' g_gnil ?_
  | with_reducible refine' And.intro (Eq.refl V.non) ?_
  | with_reducible refine' g_isN ?_
  | ((with_reducible refine' g_chainR ?ha ?hb ?hc ?_); (case ha => intro R q; walk_at "g"; exact q); (case hb => intro R q; walk_at "g"; exact q); (case hc => intro R q; walk_at "g"; exact q))
  | with_reducible refine' g_notN ?_)
/-- what the law's dict tells -/
local macro_rules | `(tactic| walk_at "dg") => `(tactic| first
  | assumption
  | exact LH.gfuns (by assumption)
  | exact LH.gsaid (by assumption)
  | exact LH.gcells (by assumption)
  | exact LH.gfuel (by assumption)
  | exact LH.gend (by assumption)
  | exact LH.gcalls (by assumption)
  | exact LH.gnames (by assumption)
  | exact LH.gwaits (by assumption)
  | exact LH.gworth (by assumption)
  | exact LH.glook (by assumption))
/-- a test that fails, that holds, by itself -/
local macro_rules | `(tactic| walk_at "no") => `(tactic| ((refine tkF rfl ?_); walk_at "g"))
local macro_rules | `(tactic| walk_at "yes") => `(tactic| ((refine tkT rfl ?_); walk_at "g"))
/-! ### alike -/
inductive Lk (K : PySem.W.Frag) (H : Hp) : Nat → V → V → Prop where
  | int {n} (i : Int) : Lk K H n (.int i) (.int i)
  | str {n} (i : Str) : Lk K H n (.str i) (.str i)
  | lst {n a b xs ys} (h : H a = some (.lst xs)) (g : H b = some (.lst ys)) (l : xs.length = ys.length) (z : ys.length ≤ 4100000) (r : ∀ (i : Nat) x y, xs[i]? = some x → ys[i]? = some y → Lk K H n x y) : Lk K H (n + 1) (.ref a) (.ref b)
  | tup {n a b xs ys} (h : SqT K H a xs) (g : SqT K H b ys) (l : xs.length = ys.length) (z : ys.length ≤ 4100000) (r : ∀ (i : Nat) x y, xs[i]? = some x → ys[i]? = some y → Lk K H n x y) : Lk K H (n + 1) (.ref a) (.ref b)
theorem ty_tup {H : Hp} {a : Addr} {xs : List V} (h : SqT K H a xs) : TyX K H (.ref a) (.type "tuple") := by
  rcases h with (h | ⟨o, h⟩) | ⟨o, its, n, h, c, _⟩
  · exact .base (.tup h)
  · exact .fTuple h
  · exact .kTuple h c
def spLike (K : PySem.W.Frag) (n : Nat) : Sp := fun vs H Q _ => ∃ v u, vs = [v, u] ∧ Lk K H n v u ∧ Q (.bl true) H
theorem kl {b : String} {r : Bool} (h : kitB "list" b = some r) : kitB "list" b = some r := h
theorem like_step (C : Cn w K mg base) (k : Nat) (hk : 1 ≤ k) (n : Nat) {sp : Sp} (F_law_like : Fn P w K mg base CX0 k "_law_like" ["_law_found", "_law_due"] sp)
    (hsp : ∀ m, n = m + 1 → ∀ vs H Q E, spLike K m vs H Q E → sp vs H Q E) : Fn P w K mg base CX0 (k + 1) "_law_like" ["_law_found", "_law_due"] (spLike K n) := C.f_law_like fun fd F => by
  refine F.ok (CX := CX0) sc_law_like (fun vs H Q E h => ?_) (fun cdv A outer s H vs Q E hr h => ?_)
  · obtain ⟨v, u, rfl, _⟩ := h
    rfl
  · obtain ⟨v, u, rfl, hl, q⟩ := h
    have hu := hu_of (hr.mono hk)
    refine ⟨_, PSs.nox (pss_cons (ps_if (pt_val (pe_callB call_isi (by rfl) (C.m_isinstance) (by decide +kernel) (pa_cons (pv 1) (pa_cons (pe_bty "bool" (by rfl) (C.m_bool) (by decide +kernel)) pa_nil)))) (pss_one (ps_ret (pe_mid (pe_and (pe_callB call_isi (by rfl) (C.m_isinstance) (by decide +kernel) (pa_cons (pv 0) (pa_cons (pe_bty "bool" (by rfl) (C.m_bool) (by decide +kernel)) pa_nil))) (pe_one (pe_cmpR op_eq (pv 0) (pv 1) (nomark _))))))) pss_nil)
      (pss_cons (ps_if (pt_val (pe_callB call_isi (by rfl) (C.m_isinstance) (by decide +kernel) (pa_cons (pv 1) (pa_cons (pe_bty "str" (by rfl) (C.m_str) (by decide +kernel)) pa_nil)))) (pss_one (ps_ret (pe_mid (pe_and (pe_callB call_isi (by rfl) (C.m_isinstance) (by decide +kernel) (pa_cons (pv 0) (pa_cons (pe_bty "str" (by rfl) (C.m_str) (by decide +kernel)) pa_nil))) (pe_one (pe_cmpR op_eq (pv 0) (pv 1) (nomark _))))))) pss_nil)
      (pss_cons (ps_if (pt_val (pe_callB call_isi (by rfl) (C.m_isinstance) (by decide +kernel) (pa_cons (pv 1) (pa_cons (pe_bty "int" (by rfl) (C.m_int) (by decide +kernel)) pa_nil)))) (pss_one (ps_ret (pe_mid (pe_and (pe_callB call_isi (by rfl) (C.m_isinstance) (by decide +kernel) (pa_cons (pv 0) (pa_cons (pe_bty "int" (by rfl) (C.m_int) (by decide +kernel)) pa_nil))) (pe_and (pe_not (pe_callB call_isi (by rfl) (C.m_isinstance) (by decide +kernel) (pa_cons (pv 0) (pa_cons (pe_bty "bool" (by rfl) (C.m_bool) (by decide +kernel)) pa_nil)))) (pe_one (pe_cmpR op_eq (pv 0) (pv 1) (nomark _)))))))) pss_nil)
      (pss_cons (ps_if (pt_cmpR op_isN (pv 1) pe_non (nomark _)) (pss_one (ps_ret (pe_cmpR op_isN (pv 0) pe_non (nomark _)))) pss_nil)
      (pss_cons (ps_if (pt_mid (PW.pt (pw_or (pt_cmpR op_ne (pe_callB call_isi (by rfl) (C.m_isinstance) (by decide +kernel) (pa_cons (pv 1) (pa_cons (pe_bty "tuple" (by rfl) (C.m_tuple) (by decide +kernel)) pa_nil))) (pe_callB call_isi (by rfl) (C.m_isinstance) (by decide +kernel) (pa_cons (pv 0) (pa_cons (pe_bty "tuple" (by rfl) (C.m_tuple) (by decide +kernel)) pa_nil))) (nomark _)) (pw_or1 (pt_cmpR op_ne (pe_callB call_isi (by rfl) (C.m_isinstance) (by decide +kernel) (pa_cons (pv 1) (pa_cons (pe_bty "list" (by rfl) (C.m_list) (by decide +kernel)) pa_nil))) (pe_callB call_isi (by rfl) (C.m_isinstance) (by decide +kernel) (pa_cons (pv 0) (pa_cons (pe_bty "list" (by rfl) (C.m_list) (by decide +kernel)) pa_nil))) (nomark _)))))) (pss_one (ps_ret pe_bl)) pss_nil)
      (pss_cons (ps_if (pt_cmpR op_ne (pe_callB call_len_seq (by rfl) (C.m_len) PySem.boot_len (pa_cons (pv 0) pa_nil)) (pe_callB call_len_seq (by rfl) (C.m_len) PySem.boot_len (pa_cons (pv 1) pa_nil)) (nomark _)) (pss_one (ps_ret pe_bl)) pss_nil)
      (pss_cons (ps_for PassesOwn.never rfl (pi_range1 (by rfl) (C.m_range) (pa_cons (pe_callB call_len_seq (by rfl) (C.m_len) PySem.boot_len (pa_cons (pv 1) pa_nil)) pa_nil)) (pg_name (i := 2) sc_law_like.nd rfl (Or.inl rfl)) (pss_one (ps_if (pt_not (pt_val (pe_fn F_law_like (rmm hr) (by rfl) pass0 (pa_cons (pe_ix Bq.ix_seq (pv 0) (pv 2) (fun _ _ => rfl)) (pa_cons (pe_ix Bq.ix_seq (pv 1) (pv 2) (fun _ _ => rfl)) pa_nil))))) (pss_one (ps_ret pe_bl)) pss_nil)))
      (pss_one (ps_ret pe_bl))))))))), ?_⟩
    cases hl with
    | int i =>
      have t := Rep.ty (K := K) (H := H) (.int i)
      walk_at "go"
      refine g_isi t (kit_bool (.int i)) ?_
      walk_at "g"
      walk_at "no"
      refine g_isi t (kit_str (.int i)) ?_
      walk_at "g"
      walk_at "no"
      refine g_isi t (kit_int (.int i)) ?_
      walk_at "g"
      walk_at "yes"
      refine g_midE (fun v' H' => v' = .bl true ∧ H' = H) ?_ ?_
      · walk_at "g"
        refine g_isi t (kit_int (.int i)) ?_
        walk_at "g"
        walk_at "yes"
        refine g_isi t (kit_bool (.int i)) ?_
        walk_at "g"
        walk_at "yes"
        simp
      · rintro _ H1 ⟨rfl, e1⟩
        rw [e1]
        exact q
    | str i =>
      have t := Rep.ty (K := K) (H := H) (.str i)
      walk_at "go"
      refine g_isi t (kit_bool (.str i)) ?_
      walk_at "g"
      walk_at "no"
      refine g_isi t (kit_str (.str i)) ?_
      walk_at "g"
      walk_at "yes"
      refine g_midE (fun v' H' => v' = .bl true ∧ H' = H) ?_ ?_
      · walk_at "g"
        refine g_isi t (kit_str (.str i)) ?_
        walk_at "g"
        walk_at "yes"
        simp
      · rintro _ H1 ⟨rfl, e1⟩
        rw [e1]
        exact q
    | @lst n a b xs ys h g l z r =>
      have tf : TyX K H (.ref a) (.type "list") := TyX.base (.lst h)
      have tg : TyX K H (.ref b) (.type "list") := TyX.base (.lst g)
      have hf : SqL K H a xs := SqL.of h
      have hg : SqL K H b ys := SqL.of g
      walk_at "go"
      refine g_isi tg (show kitB "list" "bool" = some false by decide +kernel) ?_
      walk_at "g"
      walk_at "no"
      refine g_isi tg (show kitB "list" "str" = some false by decide +kernel) ?_
      walk_at "g"
      walk_at "no"
      refine g_isi tg (show kitB "list" "int" = some false by decide +kernel) ?_
      walk_at "g"
      walk_at "no"
      walk_at "no"
      refine g_mid (fun v' H' => v' = false ∧ H' = H) ?_ ?_
      · walk_at "g"
        refine g_isi tg (show kitB "list" "tuple" = some false by decide +kernel) ?_
        walk_at "g"
        refine g_isi tf (show kitB "list" "tuple" = some false by decide +kernel) ?_
        walk_at "g"
        walk_at "no"
        refine g_isi tg (show kitB "list" "list" = some true by decide +kernel) ?_
        walk_at "g"
        refine g_isi tf (show kitB "list" "list" = some true by decide +kernel) ?_
        walk_at "g"
        exact ⟨rfl, rfl⟩
      · rintro _ H1 ⟨rfl, e1⟩
        rw [e1]
        walk_at "no"
        rw [l]
        refine tkF (by simp) ?_
        walk_at "g"
        refine ⟨by omega, by omega, ?_⟩
        refine for_rng (fun i σ H' => ∃ x2, σ = [some (.ref a), some (.ref b), x2] ∧ H' = H) ⟨_, rfl, rfl⟩ ?_ ?_
        · rintro i σ H2 hi ⟨x2, rfl, rfl⟩
          have hi2 : i < ys.length := hi
          have hi1 : i < xs.length := by omega
          have e1 := List.getElem?_eq_getElem hi1
          have e2 := List.getElem?_eq_getElem hi2
          walk_at "g"
          refine .inl (g_ixL hf (atI_nat e1) ?_)
          walk_at "g"
          refine .inl (g_ixL hg (atI_nat e2) ?_)
          walk_at "g"
          refine hsp n rfl _ _ _ _ ⟨_, _, rfl, r i _ _ e1 e2, ?_⟩
          walk_at "g"
          walk_at "no"
          rfl
        · rintro σ H2 ⟨x2, rfl, rfl⟩
          walk_at "g"
          exact q
    | @tup n a b xs ys h g l z r =>
      have tf : TyX K H (.ref a) (.type "tuple") := ty_tup h
      have tg : TyX K H (.ref b) (.type "tuple") := ty_tup g
      have hf : SqT K H a xs := h
      have hg : SqT K H b ys := g
      walk_at "go"
      refine g_isi tg (show kitB "tuple" "bool" = some false by decide +kernel) ?_
      walk_at "g"
      walk_at "no"
      refine g_isi tg (show kitB "tuple" "str" = some false by decide +kernel) ?_
      walk_at "g"
      walk_at "no"
      refine g_isi tg (show kitB "tuple" "int" = some false by decide +kernel) ?_
      walk_at "g"
      walk_at "no"
      walk_at "no"
      refine g_mid (fun v' H' => v' = false ∧ H' = H) ?_ ?_
      · walk_at "g"
        refine g_isi tg (show kitB "tuple" "tuple" = some true by decide +kernel) ?_
        walk_at "g"
        refine g_isi tf (show kitB "tuple" "tuple" = some true by decide +kernel) ?_
        walk_at "g"
        walk_at "no"
        refine g_isi tg (show kitB "tuple" "list" = some false by decide +kernel) ?_
        walk_at "g"
        refine g_isi tf (show kitB "tuple" "list" = some false by decide +kernel) ?_
        walk_at "g"
        exact ⟨rfl, rfl⟩
      · rintro _ H1 ⟨rfl, e1⟩
        rw [e1]
        walk_at "no"
        rw [l]
        refine tkF (by simp) ?_
        walk_at "g"
        refine ⟨by omega, by omega, ?_⟩
        refine for_rng (fun i σ H' => ∃ x2, σ = [some (.ref a), some (.ref b), x2] ∧ H' = H) ⟨_, rfl, rfl⟩ ?_ ?_
        · rintro i σ H2 hi ⟨x2, rfl, rfl⟩
          have hi2 : i < ys.length := hi
          have hi1 : i < xs.length := by omega
          have e1 := List.getElem?_eq_getElem hi1
          have e2 := List.getElem?_eq_getElem hi2
          walk_at "g"
          refine .inr (g_ixT hf (atI_nat e1) ?_)
          walk_at "g"
          refine .inr (g_ixT hg (atI_nat e2) ?_)
          walk_at "g"
          refine hsp n rfl _ _ _ _ ⟨_, _, rfl, r i _ _ e1 e2, ?_⟩
          walk_at "g"
          walk_at "no"
          rfl
        · rintro σ H2 ⟨x2, rfl, rfl⟩
          walk_at "g"
          exact q
theorem fn_like (C : Cn w K mg base) : ∀ n : Nat, Fn P w K mg base CX0 (n + 2) "_law_like" ["_law_found", "_law_due"] (spLike K n)
  | 0 => like_step C 1 (by decide) 0 (sp := fun _ _ _ _ => False) (C.f_law_like fun fd F => ⟨fun _ _ _ _ h => h.elim, fun _ _ _ _ _ _ _ _ _ _ _ _ _ h => h.elim⟩) fun m h => by omega
  | n + 1 => like_step C (n + 2) (by omega) (n + 1) (fn_like C n) fun m e _ _ _ _ h => by
    have : m = n := by omega
    rw [← this]
    exact h
end
end K3
end

section
set_option maxRecDepth 100000
set_option maxHeartbeats 1000000
open Bq L2
/-- one step of a reading; what is left are side goals and places to think -/
local macro_rules | `(tactic| walk_at "g1") => `(tactic| first
  | with_reducible refine' g_seq ?_ | with_reducible refine' g_asg ?_ | with_reducible refine' g_drop ?_ | with_reducible refine' g_ret ?_ | with_reducible refine' g_ifS ?_ | with_reducible refine' g_asgG ?_
  | ((with_reducible refine' g_var ?hv ?_); (case hv => rfl))
  | with_reducible refine' g_c ?_ | with_reducible refine' g_op ?_ | with_reducible refine' g_un ?_ | with_reducible refine' g_I0 ?_ | with_reducible refine' g_U ?_
  | with_reducible refine' g_test ?_ | with_reducible refine' g_tB ?_ | with_reducible refine Exists.intro _ (And.intro rfl ?_) 
  | ((with_reducible refine' g_andP ?ha ?hb ?_); (case ha => intro R q; walk_at "g"; exact q); (case hb => intro R q; walk_at "g"; exact q))
  | ((with_reducible refine' g_orP ?ha ?hb ?_); (case ha => intro R q; walk_at "g"; exact q); (case hb => intro R q; walk_at "g"; exact q))
  | with_reducible refine' g_and ?_ | with_reducible refine' g_or ?_ | with_reducible refine' g_not ?_
  | with_reducible refine' g_andV ?_ | with_reducible refine' g_orV ?_ | with_reducible refine' g_notV ?_ | with_reducible refine' g_if ?_ | with_reducible refine' g_nil ?_ | with_reducible refine' g_cons ?_
  | with_reducible refine' g_tup ?_ | with_reducible refine' g_lst ?_ | with_reducible refine' g_CB ?_ | with_reducible refine' g_Fn ?_ | with_reducible refine' g_next ?_ | with_reducible refine' g_retN ?_
  | with_reducible refine' g_name ?_ | with_reducible refine' g_sub ?_
  | ((with_reducible refine' g_ixL ?hs ?he ?_); (case hs => walk_at "lk"); (case he => walk_at "at"))
  | ((with_reducible refine' g_ixT ?hs ?he ?_); (case hs => walk_at "lk"); (case he => walk_at "at"))
  | ((with_reducible refine' g_setL ?hs ?he ?_); (case hs => walk_at "hp"); (case he => rfl))
  | ((with_reducible refine' g_app ?hs ?hz ?_); (case hs => walk_at "hp"); (case hz => walk_at "sz"))
  | ((with_reducible refine' ⟨_, _, rfl, Or.inl ?hs, ?_⟩); (case hs => walk_at "lk"))
  | ((with_reducible refine' ⟨_, _, rfl, Or.inr ?hs, ?_⟩); (case hs => walk_at "lk"))
  | with_reducible refine' g_BM ?_ | with_reducible refine' g_BM0 ?_ | ((with_reducible refine' g_tyL ?hs ?_); (case hs => walk_at "lk"))
  | with_reducible refine' g_sl ?_ | with_reducible refine' g_noPart ?_ | with_reducible refine' g_part ?_
  | ((with_reducible refine' g_inT ?hs ?fx ?fs ?_); (case hs => walk_at "lk"); (case fx => rfl); (case fs => rfl))
  | with_reducible refine' g_pair ?_ | with_reducible refine' g_pair0 ?_ | with_reducible refine' g_disp ?_
  | with_reducible refine' g_for ?_ | with_reducible refine' g_tupC ?_ | with_reducible refine' g_lstC ?_ | ((with_reducible refine' g_lens ?_)) | with_reducible refine' g_dg ?_ | with_reducible refine' g_lc ?_ | with_reducible refine' g_rng1 ?_ | with_reducible refine' g_ilist ?_ | with_reducible refine' g_itup ?_
  | ((with_reducible refine' ⟨_, _, rfl, ?hd, ?_⟩); (case hd => walk_at "dg"))
  | ((with_reducible refine' g_eqNil ?hs ?hz ?_); (case hs => walk_at "lk"); (case hz => walk_at "lk"))
  | ((with_reducible refine' g_neNil ?hs ?hz ?_); (case hs => walk_at "lk"); (case hz => walk_at "lk"))
  | with_reducible refine Or.inl ⟨_, rfl, ?_⟩
  | with_reducible refine Or.inr ⟨_, rfl, ?_⟩
  | ((with_reducible refine' g_eq ?hs ?_); (case hs => rfl))
  | ((with_reducible refine' g_ne ?hs ?_); (case hs => rfl))
  | ((with_reducible refine' g_I ?hc ?_); (case hc => walk_at "ar")))
/-- arithmetic's side conditions -/
local macro_rules | `(tactic| walk_at "ar") => `(tactic| (first
  | (show (0 : Int) < _; first | omega | decide) | (show (0 : Int) < _ ∧ _; constructor <;> omega) | (show ¬ (_ : Int) = _; omega) | (show (_ : Int) ≠ _ ∧ _; constructor <;> omega)
  | (show (-(2 ^ 64) < _ ∧ _) ∨ _; (first | (left; constructor <;> omega) | (right; constructor <;> omega))) | (show (0 : Int) ≤ _ ∧ _ ∧ _; refine ⟨by omega, by omega, by decide⟩)))
/-- what stands at an index -/
local macro_rules | `(tactic| walk_at "at") => `(tactic| first | rfl | assumption)
/-- what stands at an address -/
local macro_rules | `(tactic| walk_at "hp") => `(tactic| first | assumption | exact upd_same | ((refine' Eq.trans (upd_ne ?hn) ?hm); (case hm => walk_at "hp"); (case hn => walk_at "ne")))
/-- two places are two -/
local macro_rules | `(tactic| walk_at "ne") => `(tactic| first
  | assumption | exact Ne.symm (by assumption)
  | ((refine' ne_of_none ?ha ?hb); (case hb => assumption); (case ha => walk_at "hp")) | ((refine' Ne.symm (ne_of_none ?ha ?hb)); (case hb => assumption); (case ha => walk_at "hp")))
/-- what a dict tells -/
local macro_rules | `(tactic| walk_at "dg") => `(tactic| first | assumption)
/-- a length -/
local macro_rules | `(tactic| walk_at "sz") => `(tactic| first | (show _ ≤ sizeLine; decide) | (show _ < sizeLine; decide) | assumption | exact szlt (by simp) | exact szle (by simp))
/-- a list or tuple that stands -/
local macro_rules | `(tactic| walk_at "lk") => `(tactic| first | assumption | exact SqL.of (by assumption) | exact SqT.of (by assumption) | exact SqL.of upd_same | exact SqT.of upd_same | (refine' FzL.sq ?hm; (case hm => walk_at "fz")))
/-- a list that nobody writes -/
local macro_rules | `(tactic| walk_at "fz") => `(tactic| first | assumption | ((refine' FzL.uw ?hm ?hx); (case hx => walk_at "hp"); (case hm => walk_at "fz")) | ((refine' FzL.nw ?hm ?hx); (case hx => assumption); (case hm => walk_at "fz")))
/-- as far as it goes by itself -/
local macro_rules | `(tactic| walk_at "g") => `(tactic| repeat walk_at "g1")
/-- the body's reading, its places in short -/
local macro_rules | `(tactic| walk_at "go") => `(tactic| ((try dsimp only [cxOf, Cx.nox, Cx.wish]); walk_at "g"))
namespace K3
open PySem PySem.Spec PyProof.Rows L2 Bq
section
variable {P : Program} {w : World} {K : PySem.W.Frag} {mg : Str → Option Value} {base : Heap}
/-- further steps: dicts written, tuples taken apart -/
local macro_rules | `(tactic| walk_at "g1") => `(tactic| first
  | with_reducible refine' g_sdput ?_
  | ((with_reducible refine' g_gtup ?hs ?hl ?_); (case hs => walk_at "lk"); (case hl => rfl))
  | with_reducible refine' g_gcons ?_
  | with_reducible refine' g_gnil ?_
  | with_reducible refine' And.intro (Eq.refl V.non) ?_
  | with_reducible refine' g_isN ?_
  | ((with_reducible refine' g_chainR ?ha ?hb ?hc ?_); (case ha => intro R q; walk_at "g"; exact q); (case hb => intro R q; walk_at "g"; exact q); (case hc => intro R q; walk_at "g"; exact q))
  | with_reducible refine' g_notN ?_)
/-- what the law's dict tells -/
local macro_rules | `(tactic| walk_at "dg") => `(tactic| first
  | assumption
  | exact LH.gfuns (by assumption)
  | exact LH.gsaid (by assumption)
  | exact LH.gcells (by assumption)
  | exact LH.gfuel (by assumption)
  | exact LH.gend (by assumption)
  | exact LH.gcalls (by assumption)
  | exact LH.gnames (by assumption)
  | exact LH.gwaits (by assumption)
  | exact LH.gworth (by assumption)
  | exact LH.glook (by assumption))
/-- a test that fails, that holds, by itself -/
local macro_rules | `(tactic| walk_at "no") => `(tactic| ((refine tkF rfl ?_); walk_at "g"))
local macro_rules | `(tactic| walk_at "yes") => `(tactic| ((refine tkT rfl ?_); walk_at "g"))
/-! ### the program: what stands behind a word -/
theorem pe_kget2 {X : Cx} {d : Addr} {i : Expr} {pos p : Pos} {x : Str} {ty : TE} (hD : ∃ es n, KDict X.K X.w d es n) (hg : Gl X x) (hm : X.mg x = some (.ref d)) (hi : PE X i ty) (hs : NoSl i) (hdb : (x == ("__debug__" : Str)) = false := by decide) : PE X (.Subscript (.Name x p) i pos) (tKGet X.K (tC (.ref d)) ty) :=
  pe_kget (o := i) hD hg hm hi hs hdb
def isIntT : T → Bool
  | .int _ => true
  | _ => false
def spIsNum (K : PySem.W.Frag) : Sp := fun vs H Q _ => ∃ v t, vs = [v] ∧ Rep K H v t ∧ Q (.bl (isIntT t)) H
theorem fn_is_number (C : Cn w K mg base) : Fn P w K mg base CX0 1 "is_number" ["thing"] (spIsNum K) := C.f_is_number fun fd F => by
  refine F.ok (CX := CX0) sc_is_number (fun vs H Q E h => ?_) (fun cdv A outer s H vs Q E hr h => ?_)
  · obtain ⟨v, t, rfl, _⟩ := h
    rfl
  · obtain ⟨v, t, rfl, r, q⟩ := h
    refine ⟨_, PSs.nox (pss_one (ps_ret (pe_mid (pe_and (pe_callB call_isi (by rfl) (C.m_isinstance) (by decide +kernel) (pa_cons (pv 0) (pa_cons (pe_bty "int" (by rfl) (C.m_int) (by decide +kernel)) pa_nil))) (pe_one (pe_not (pe_callB call_isi (by rfl) (C.m_isinstance) (by decide +kernel) (pa_cons (pv 0) (pa_cons (pe_bty "bool" (by rfl) (C.m_bool) (by decide +kernel)) pa_nil))))))))), ?_⟩
    walk_at "go"
    refine g_midE (fun v' H' => v' = .bl (isIntT t) ∧ H' = H) ?_ ?_
    · walk_at "g"
      refine g_isi r.ty (kit_int t) ?_
      cases t with
      | int i =>
        walk_at "g"
        walk_at "yes"
        refine g_isi r.ty (kit_bool (.int i)) ?_
        walk_at "g"
        exact ⟨rfl, rfl⟩
      | str i =>
        walk_at "g"
        walk_at "no"
        exact ⟨rfl, rfl⟩
      | tup i =>
        walk_at "g"
        walk_at "no"
        exact ⟨rfl, rfl⟩
    · rintro _ H1 ⟨rfl, e1⟩
      rw [e1]
      exact q
def plT : Th → List Str
  | .p (.num _) => ["n"]
  | .p (.name _) => ["name"]
  | .p (.bin _ _ _) => ["part", "part"]
  | .p (.nt _) => ["part"]
  | .p (.get _) => ["part"]
  | .p (.call _ _) => ["fun", "parts"]
  | .d (.set _ _) => ["name", "part"]
  | .d (.put _ _) => ["part", "part"]
  | .d (.say _) => ["part"]
  | .d (.ite _ _ _) => ["part", "body", "body"]
  | .d (.whl _ _) => ["part", "body"]
  | .d (.ret _) => ["part"]
  | .d (.dop _) => ["part"]
theorem plT_len (t : Th) : (plT t).length = (restT t).length := by
  cases t with
  | p p => cases p <;> rfl
  | d d => cases d <;> rfl
theorem deeds_tab (C : Cn w K mg base) (t : Th) : match t with
    | .p _ => PySem.W.nsIn K (He.ga K "DEEDS") (wdT t) = some none
    | .d _ => ∃ a, PySem.W.nsIn K (He.ga K "DEEDS") (wdT t) = some (some (.ref a)) ∧ ∀ H, SqT K H a ((plT t).map V.str) := by
  cases t with
  | p p => cases p with
    | bin op a b => cases op <;> exact modTab_no C.v_DEEDS (by simp only [wdT, Op.str, plT]; decide +kernel)
    | _ => exact modTab_no C.v_DEEDS (by simp only [wdT, Op.str, plT]; decide +kernel)
  | d d => cases d <;> exact modTab_yes C.v_DEEDS (by simp only [wdT, Op.str, plT]; decide +kernel)
theorem parts_tab (C : Cn w K mg base) (t : Th) : match t with
    | .d _ => PySem.W.nsIn K (He.ga K "PARTS") (wdT t) = some none
    | .p _ => ∃ a, PySem.W.nsIn K (He.ga K "PARTS") (wdT t) = some (some (.ref a)) ∧ ∀ H, SqT K H a ((plT t).map V.str) := by
  cases t with
  | p p => cases p with
    | bin op a b => cases op <;> exact modTab_yes C.v_PARTS (by simp only [wdT, Op.str, plT]; decide +kernel)
    | _ => exact modTab_yes C.v_PARTS (by simp only [wdT, Op.str, plT]; decide +kernel)
  | d d => cases d <;> exact modTab_no C.v_PARTS (by simp only [wdT, Op.str, plT]; decide +kernel)
def spPlaces (K : PySem.W.Frag) : Sp := fun vs H Q _ => ∃ t, vs = [.str (wdT t)] ∧ ∀ a, (∀ H', SqT K H' a ((plT t).map V.str)) → Q (.ref a) H
theorem g_kget {td ty : TE} {σ : L2.St} {H : Hp} {Q : VK} (h : td σ H fun x H1 => ty σ H1 fun y H2 => ∃ (d : Addr) (z : Str) (u0 : Value) (v0 : V), x = .ref d ∧ y = .str z ∧ PySem.W.nsIn K d z = some (some u0) ∧ RelV v0 u0 ∧ Q v0 H2) : tKGet K td ty σ H Q := h
theorem fn_places (C : Cn w K mg base) : Fn P w K mg base CX0 1 "places_behind" ["word"] (spPlaces K) := C.f_places_behind fun fd F => by
  refine F.ok (CX := CX0) sc_places_behind (fun vs H Q E h => ?_) (fun cdv A outer s H vs Q E hr h => ?_)
  · obtain ⟨t, rfl, _⟩ := h
    rfl
  · obtain ⟨t, rfl, q⟩ := h
    refine ⟨_, PSs.nox (pss_cons (ps_if (pt_cmpR (op_in_mod C.k_DEEDS) (pv 0) (pe_glob (v := .ref _) (by rfl) C.g_DEEDS rfl) (by rfl)) (pss_one (ps_ret (pe_kget2 C.k_DEEDS (by rfl) C.g_DEEDS (pv 0) (fun _ _ => rfl)))) pss_nil)
      (pss_one (ps_ret (pe_kget2 C.k_PARTS (by rfl) C.g_PARTS (pv 0) (fun _ _ => rfl))))), ?_⟩
    have hd := deeds_tab C t
    have hp := parts_tab C t
    walk_at "go"
    cases t with
    | p p =>
      refine ⟨_, _, rfl, rfl, hd, ?_⟩
      walk_at "g"
      walk_at "no"
      refine g_kget ?_
      obtain ⟨a, ha, hS⟩ := hp
      walk_at "g"
      exact ⟨_, _, _, .ref a, rfl, rfl, ha, rfl, q a hS⟩
    | d d =>
      obtain ⟨a, ha, hS⟩ := hd
      refine ⟨_, _, rfl, rfl, ha, ?_⟩
      walk_at "g"
      walk_at "yes"
      refine g_kget ?_
      walk_at "g"
      exact ⟨_, _, _, .ref a, rfl, rfl, ha, rfl, q a hS⟩
end
end K3
end

section
set_option maxRecDepth 100000
set_option maxHeartbeats 1000000
open Bq L2
/-- one step of a reading; what is left are side goals and places to think -/
local macro_rules | `(tactic| walk_at "g1") => `(tactic| first
  | with_reducible refine' g_seq ?_ | with_reducible refine' g_asg ?_ | with_reducible refine' g_drop ?_ | with_reducible refine' g_ret ?_ | with_reducible refine' g_ifS ?_ | with_reducible refine' g_asgG ?_
  | ((with_reducible refine' g_var ?hv ?_); (case hv => rfl))
  | with_reducible refine' g_c ?_ | with_reducible refine' g_op ?_ | with_reducible refine' g_un ?_ | with_reducible refine' g_I0 ?_ | with_reducible refine' g_U ?_
  | with_reducible refine' g_test ?_ | with_reducible refine' g_tB ?_ | with_reducible refine Exists.intro _ (And.intro rfl ?_) 
  | ((with_reducible refine' g_andP ?ha ?hb ?_); (case ha => intro R q; walk_at "g"; exact q); (case hb => intro R q; walk_at "g"; exact q))
  | ((with_reducible refine' g_orP ?ha ?hb ?_); (case ha => intro R q; walk_at "g"; exact q); (case hb => intro R q; walk_at "g"; exact q))
  | with_reducible refine' g_and ?_ | with_reducible refine' g_or ?_ | with_reducible refine' g_not ?_
  | with_reducible refine' g_andV ?_ | with_reducible refine' g_orV ?_ | with_reducible refine' g_notV ?_ | with_reducible refine' g_if ?_ | with_reducible refine' g_nil ?_ | with_reducible refine' g_cons ?_
  | with_reducible refine' g_tup ?_ | with_reducible refine' g_lst ?_ | with_reducible refine' g_CB ?_ | with_reducible refine' g_Fn ?_ | with_reducible refine' g_next ?_ | with_reducible refine' g_retN ?_
  | with_reducible refine' g_name ?_ | with_reducible refine' g_sub ?_
  | ((with_reducible refine' g_ixL ?hs ?he ?_); (case hs => walk_at "lk"); (case he => walk_at "at"))
  | ((with_reducible refine' g_ixT ?hs ?he ?_); (case hs => walk_at "lk"); (case he => walk_at "at"))
  | ((with_reducible refine' g_setL ?hs ?he ?_); (case hs => walk_at "hp"); (case he => rfl))
  | ((with_reducible refine' g_app ?hs ?hz ?_); (case hs => walk_at "hp"); (case hz => walk_at "sz"))
  | ((with_reducible refine' ⟨_, _, rfl, Or.inl ?hs, ?_⟩); (case hs => walk_at "lk"))
  | ((with_reducible refine' ⟨_, _, rfl, Or.inr ?hs, ?_⟩); (case hs => walk_at "lk"))
  | with_reducible refine' g_BM ?_ | with_reducible refine' g_BM0 ?_ | ((with_reducible refine' g_tyL ?hs ?_); (case hs => walk_at "lk"))
  | with_reducible refine' g_sl ?_ | with_reducible refine' g_noPart ?_ | with_reducible refine' g_part ?_
  | ((with_reducible refine' g_inT ?hs ?fx ?fs ?_); (case hs => walk_at "lk"); (case fx => rfl); (case fs => rfl))
  | with_reducible refine' g_pair ?_ | with_reducible refine' g_pair0 ?_ | with_reducible refine' g_disp ?_
  | with_reducible refine' g_for ?_ | with_reducible refine' g_tupC ?_ | with_reducible refine' g_lstC ?_ | ((with_reducible refine' g_lens ?_)) | with_reducible refine' g_dg ?_ | with_reducible refine' g_lc ?_ | with_reducible refine' g_rng1 ?_ | with_reducible refine' g_ilist ?_ | with_reducible refine' g_itup ?_
  | ((with_reducible refine' ⟨_, _, rfl, ?hd, ?_⟩); (case hd => walk_at "dg"))
  | ((with_reducible refine' g_eqNil ?hs ?hz ?_); (case hs => walk_at "lk"); (case hz => walk_at "lk"))
  | ((with_reducible refine' g_neNil ?hs ?hz ?_); (case hs => walk_at "lk"); (case hz => walk_at "lk"))
  | with_reducible refine Or.inl ⟨_, rfl, ?_⟩
  | with_reducible refine Or.inr ⟨_, rfl, ?_⟩
  | ((with_reducible refine' g_eq ?hs ?_); (case hs => rfl))
  | ((with_reducible refine' g_ne ?hs ?_); (case hs => rfl))
  | ((with_reducible refine' g_I ?hc ?_); (case hc => walk_at "ar")))
/-- arithmetic's side conditions -/
local macro_rules | `(tactic| walk_at "ar") => `(tactic| (first
  | (show (0 : Int) < _; first | omega | decide) | (show (0 : Int) < _ ∧ _; constructor <;> omega) | (show ¬ (_ : Int) = _; omega) | (show (_ : Int) ≠ _ ∧ _; constructor <;> omega)
  | (show (-(2 ^ 64) < _ ∧ _) ∨ _; (first | (left; constructor <;> omega) | (right; constructor <;> omega))) | (show (0 : Int) ≤ _ ∧ _ ∧ _; refine ⟨by omega, by omega, by decide⟩)))
/-- what stands at an index -/
local macro_rules | `(tactic| walk_at "at") => `(tactic| first | rfl | assumption)
/-- what stands at an address -/
local macro_rules | `(tactic| walk_at "hp") => `(tactic| first | assumption | exact upd_same | ((refine' Eq.trans (upd_ne ?hn) ?hm); (case hm => walk_at "hp"); (case hn => walk_at "ne")))
/-- two places are two -/
local macro_rules | `(tactic| walk_at "ne") => `(tactic| first
  | assumption | exact Ne.symm (by assumption)
  | ((refine' ne_of_none ?ha ?hb); (case hb => assumption); (case ha => walk_at "hp")) | ((refine' Ne.symm (ne_of_none ?ha ?hb)); (case hb => assumption); (case ha => walk_at "hp")))
/-- what a dict tells -/
local macro_rules | `(tactic| walk_at "dg") => `(tactic| first | assumption)
/-- a length -/
local macro_rules | `(tactic| walk_at "sz") => `(tactic| first | (show _ ≤ sizeLine; decide) | (show _ < sizeLine; decide) | assumption | exact szlt (by simp) | exact szle (by simp))
/-- a list or tuple that stands -/
local macro_rules | `(tactic| walk_at "lk") => `(tactic| first | assumption | exact SqL.of (by assumption) | exact SqT.of (by assumption) | exact SqL.of upd_same | exact SqT.of upd_same | (refine' FzL.sq ?hm; (case hm => walk_at "fz")))
/-- a list that nobody writes -/
local macro_rules | `(tactic| walk_at "fz") => `(tactic| first | assumption | ((refine' FzL.uw ?hm ?hx); (case hx => walk_at "hp"); (case hm => walk_at "fz")) | ((refine' FzL.nw ?hm ?hx); (case hx => assumption); (case hm => walk_at "fz")))
/-- as far as it goes by itself -/
local macro_rules | `(tactic| walk_at "g") => `(tactic| repeat walk_at "g1")
/-- the body's reading, its places in short -/
local macro_rules | `(tactic| walk_at "go") => `(tactic| ((try dsimp only [cxOf, Cx.nox, Cx.wish]); walk_at "g"))
namespace K3
open PySem PySem.Spec PyProof.Rows L2 Bq
section
variable {P : Program} {w : World} {K : PySem.W.Frag} {mg : Str → Option Value} {base : Heap}
/-- further steps: dicts written, tuples taken apart -/
local macro_rules | `(tactic| walk_at "g1") => `(tactic| first
  | with_reducible refine' g_sdput ?_
  | ((with_reducible refine' g_gtup ?hs ?hl ?_); (case hs => walk_at "lk"); (case hl => rfl))
  | with_reducible refine' g_gcons ?_
  | with_reducible refine' g_gnil ?_
  | with_reducible refine' And.intro (Eq.refl V.non) ?_
  | with_reducible refine' g_isN ?_
  | ((with_reducible refine' g_chainR ?ha ?hb ?hc ?_); (case ha => intro R q; walk_at "g"; exact q); (case hb => intro R q; walk_at "g"; exact q); (case hc => intro R q; walk_at "g"; exact q))
  | with_reducible refine' g_notN ?_)
/-- what the law's dict tells -/
local macro_rules | `(tactic| walk_at "dg") => `(tactic| first
  | assumption
  | exact LH.gfuns (by assumption)
  | exact LH.gsaid (by assumption)
  | exact LH.gcells (by assumption)
  | exact LH.gfuel (by assumption)
  | exact LH.gend (by assumption)
  | exact LH.gcalls (by assumption)
  | exact LH.gnames (by assumption)
  | exact LH.gwaits (by assumption)
  | exact LH.gworth (by assumption)
  | exact LH.glook (by assumption))
/-- a test that fails, that holds, by itself -/
local macro_rules | `(tactic| walk_at "no") => `(tactic| ((refine tkF rfl ?_); walk_at "g"))
local macro_rules | `(tactic| walk_at "yes") => `(tactic| ((refine tkT rfl ?_); walk_at "g"))
/-! ### parts and bodies of a thing -/
theorem lcZ {a b : Addr} {xs ys : List V} {g : TG} {tt : TT} {te : TE} {vs : List Nat} {σ : L2.St} {H1 : Hp} {D : Addr} {Qd : Hp → Prop} (hl : xs.length = ys.length) (Pv : Nat → Hp → Prop) (h0 : Pv 0 (upd H1 D (.lst []))) (hq : ∀ i H, Pv i H → SqT K H a xs ∧ SqT K H b ys)
    (hs : ∀ (i : Nat) x y T H, xs[i]? = some x → ys[i]? = some y → Pv i H → H T = none → g (.ref T) (wipe σ vs) (upd H T (.tup [x, y])) fun σ2 H2 => wipe σ2 vs = wipe σ vs ∧ tt σ2 H2 fun b H3 =>
      if b = true then te σ2 H3 fun y H4 => ∃ acc, H4 D = some (.lst acc) ∧ acc.length < sizeLine ∧ Pv (i + 1) (upd H4 D (.lst (acc ++ [y]))) else Pv (i + 1) H3) (hd : ∀ H, Pv xs.length H → Qd H) :
    ∃ W : Nat → Nat → Hp → Prop, (∃ m, W 0 m (upd H1 D (.lst []))) ∧ ∀ i m H, W i m H →
      ((RZ.ItzT K a b).stop i H ∧ Qd H) ∨ ((RZ.ItzT K a b).go i H ∧ ∃ Nx : Hp → Prop, (∀ H', Nx H' → ∃ m', m' < m ∧ W (i + 1) m' H') ∧ ∀ x H', (RZ.ItzT K a b).yld i H x H' → g x (wipe σ vs) H' fun σ2 H2 => wipe σ2 vs = wipe σ vs ∧ tt σ2 H2 fun b H3 =>
        if b = true then te σ2 H3 fun y H4 => ∃ acc, H4 D = some (.lst acc) ∧ acc.length < sizeLine ∧ Nx (upd H4 D (.lst (acc ++ [y]))) else Nx H3) := by
  refine ⟨fun i m H => m = xs.length - i ∧ i ≤ xs.length ∧ Pv i H, ⟨xs.length, rfl, Nat.zero_le _, h0⟩, ?_⟩
  rintro i m H ⟨rfl, hi, p⟩
  obtain ⟨qx, qy⟩ := hq i H p
  by_cases hlt : i < xs.length
  · have hx : xs[i]? = some xs[i] := List.getElem?_eq_getElem hlt
    have hlt2 : i < ys.length := by omega
    have hy : ys[i]? = some ys[i] := List.getElem?_eq_getElem hlt2
    refine .inr ⟨⟨xs, ys, _, _, qx, qy, hx, hy⟩, Pv (i + 1), fun H' p' => ⟨xs.length - (i + 1), by omega, rfl, hlt, p'⟩, fun v H' y => ?_⟩
    obtain ⟨T, x', y', rfl, hT, rfl, f1, f2⟩ := y
    exact hs i x' y' T H (f1 xs qx) (f2 ys qy) p hT
  · have e : i = xs.length := by omega
    subst e
    exact .inl ⟨⟨xs, ys, qx, qy, Or.inl (Nat.le_refl _)⟩, hd H p⟩
def filT (w : Str) : List Str → List T → List T
  | s :: ss, t :: ts => if s = w then t :: filT w ss ts else filT w ss ts
  | _, _ => []
theorem filT_take (w : Str) : ∀ (ss : List Str) (ts : List T) (i : Nat) (s : Str) (t : T), ss[i]? = some s → ts[i]? = some t → filT w (ss.take (i + 1)) (ts.take (i + 1)) = filT w (ss.take i) (ts.take i) ++ (if s = w then [t] else [])
  | [], _, i, s, t, h, _ => by simp at h
  | _ :: _, [], i, s, t, _, h => by simp at h
  | a :: ss, b :: ts, 0, s, t, h, k => by
    simp at h k
    subst h
    subst k
    simp only [List.take_succ_cons, List.take_zero, filT]
    split <;> rfl
  | a :: ss, b :: ts, i + 1, s, t, h, k => by
    have ih := filT_take w ss ts i s t (by simpa using h) (by simpa using k)
    simp only [List.take_succ_cons, filT]
    rw [ih]
    split <;> simp
theorem filT_le (w : Str) : ∀ (ss : List Str) (ts : List T), (filT w ss ts).length ≤ ss.length
  | [], _ => Nat.zero_le _
  | _ :: _, [] => Nat.zero_le _
  | a :: ss, b :: ts => by
    have := filT_le w ss ts
    simp only [filT]
    split <;> simp only [List.length_cons] <;> omega
theorem fil_parts {t : Th} (h : notCall t) : filT "part" (plT t) (restT t) = encPs (innerT t) := by
  cases t with
  | p p => cases p with
    | call f ps => exact h.elim
    | _ => rfl
  | d d => cases d <;> rfl
def bodT : Th → List (List Dd)
  | .d (.ite _ a b) => [a, b]
  | .d (.whl _ b) => [b]
  | _ => []
theorem fil_bodies (t : Th) : filT "body" (plT t) (restT t) = (bodT t).map fun b => .tup (encB b) := by
  cases t with
  | p p => cases p <;> rfl
  | d d => cases d <;> rfl
theorem plT_le (t : Th) : (plT t).length ≤ 3 := by
  cases t with
  | p p => cases p <;> simp [plT]
  | d d => cases d <;> simp [plT]
def spBodies (K : PySem.W.Frag) : Sp := fun vs H Q _ => ∃ v t, vs = [v] ∧ Rep K H v (encT t) ∧ ∀ H' l us, Ch K [] H H' → H l = none → H' l = some (.lst us) → Reps K H' us ((bodT t).map fun b => .tup (encB b)) → Q (.ref l) H'
/-- the comprehension of both -/
theorem lc_fil {w : Str} {t : Th} {a b : Addr} {us : List V} {σ : L2.St} {H0 H1 : Hp} {D : Addr} {Q : VK} (hw : ∀ u v : Option V, wipe ((((wipe σ [1, 2]).set 1 u).set 2 v)) [1, 2] = wipe σ [1, 2]) (h3 : 2 < σ.length)
    (c : Ch K [] H0 H1) (nD : H1 D = none) (hS : SqT K H1 a ((plT t).map V.str)) (hS2 : SqT K H1 b us) (rs : Reps K H1 us (restT t)) (q : ∀ H', Ch K [] H0 H' → (∃ us', H' D = some (.lst us') ∧ Reps K H' us' (filT w (plT t) (restT t))) → Q (.ref D) H') :
    ∃ W : Nat → Nat → Hp → Prop, (∃ m, W 0 m (upd H1 D (.lst []))) ∧ ∀ i m H, W i m H →
      ((RZ.ItzT K a b).stop i H ∧ Q (.ref D) H) ∨ ((RZ.ItzT K a b).go i H ∧ ∃ Nx : Hp → Prop, (∀ H', Nx H' → ∃ m', m' < m ∧ W (i + 1) m' H') ∧ ∀ x H', (RZ.ItzT K a b).yld i H x H' → gTup K 2 (gCons (gName 1) (gCons (gName 2) gNil)) x (wipe σ [1, 2]) H' fun σ2 H2 => wipe σ2 [1, 2] = wipe σ [1, 2] ∧ tTest (tOp rEq (tVar 1) (tC (.str w))) σ2 H2 fun b H3 =>
        if b = true then tVar 2 σ2 H3 fun y H4 => ∃ acc, H4 D = some (.lst acc) ∧ acc.length < sizeLine ∧ Nx (upd H4 D (.lst (acc ++ [y]))) else Nx H3) := by
  have hpl := plT_le t
  have ll : ((plT t).map V.str).length = us.length := by rw [List.length_map, plT_len, rs.len]
  refine lcZ (xs := (plT t).map V.str) (ys := us) ll (fun i H' => Ch K [] H1 H' ∧ ∃ us', H' D = some (.lst us') ∧ Reps K H' us' (filT w ((plT t).take i) ((restT t).take i))) ⟨Ch.new nD, [], upd_same, by
      rw [List.take_zero]
      exact .nil⟩ (fun i H' p => ⟨p.1.sqT hS, p.1.sqT hS2⟩) ?_ ?_
  · rintro i x y T H2 hx hy ⟨c2, us', eD, r2⟩ nT
    rw [List.getElem?_map] at hx
    cases es : (plT t)[i]? with
    | none => rw [es] at hx; cases hx
    | some s =>
      rw [es] at hx
      obtain rfl : V.str s = x := Option.some.inj hx
      obtain ⟨ty, ety, ry⟩ := rs.get hy
      have cT : Ch K [] H2 (upd H2 T (.tup [.str s, y])) := Ch.new nT
      have eT : (upd H2 T (.tup [.str s, y])) T = some (.tup [.str s, y]) := upd_same
      generalize upd H2 T (.tup [.str s, y]) = H3 at cT eT ⊢
      refine ⟨T, _, rfl, SqT.of eT, rfl, _, _, rfl, _, _, rfl, rfl, ?_, ?_⟩
      · exact hw _ _
      · have l2 : 2 < (wipe σ [1, 2]).length := by
          rw [wipe_length]
          exact h3
        have v1 : (((wipe σ [1, 2]).set 1 (some (V.str s))).set 2 (some y))[1]? = some (some (V.str s)) := by
          rw [List.getElem?_set_ne (by decide), List.getElem?_set_self (by omega)]
        have v2 : (((wipe σ [1, 2]).set 1 (some (V.str s))).set 2 (some y))[2]? = some (some y) := by
          rw [List.getElem?_set_self (by simpa using l2)]
        have ft := filT_take w _ _ i s ty es ety
        have c13 := c2.trans cT
        refine g_test (g_op (g_var v1 (g_c (g_eq rfl ⟨_, rfl, ?_⟩))))
        by_cases e : s = w
        · subst e
          rw [if_pos (by simp)]
          refine g_var v2 ?_
          have eD3 := cT.up _ _ eD (by simp)
          have c4 : Ch K [] H1 (upd H3 D (.lst (us' ++ [y]))) := Ch.wrN c13 nD eD3 rfl
          have k4 : Kt K H3 (upd H3 D (.lst (us' ++ [y]))) := (Ch.wrL (S := [D]) eD3 (by simp)).kt
          refine ⟨us', eD3, ?_, c4, _, upd_same, ?_⟩
          · have l1 := r2.len
            have l2 := filT_le s ((plT t).take i) ((restT t).take i)
            rw [List.length_take] at l2
            exact szlt (by omega)
          · rw [ft, if_pos rfl]
            exact (r2.kt (cT.kt.trans k4)).append (.cons (ry.kt c4.kt) .nil)
        · rw [if_neg (by simpa using e)]
          refine ⟨c13, us', cT.up _ _ eD (by simp), ?_⟩
          rw [ft, if_neg e, List.append_nil]
          exact r2.kt cT.kt
  · rintro H2 ⟨c2, us', eD, r2⟩
    refine q H2 (c.trans c2) ⟨us', eD, ?_⟩
    have l1 : ((plT t).map V.str).length = (plT t).length := List.length_map ..
    have l2 := plT_len t
    rw [List.take_of_length_le (by omega), List.take_of_length_le (by omega)] at r2
    exact r2
theorem g_zipA {ta : TA} {σ : L2.St} {H : Hp} {R : It → Hp → Prop} (h : ta σ H fun vs H1 => ∃ a b xs ys, vs = [.ref a, .ref b] ∧ ((SqL K H1 a xs ∧ SqL K H1 b ys ∧ R (Itz K a b) H1) ∨ (SqT K H1 a xs ∧ SqT K H1 b ys ∧ R (RZ.ItzT K a b) H1))) : RZ.iZipA K ta σ H R := h
theorem fn_bodies (C : Cn w K mg base) : Fn P w K mg base CX0 2 "bodies_of" ["thing"] (spBodies K) := C.f_bodies_of fun fd F => by
  have F_places_behind : Fn P w K mg base CX0 1 "places_behind" ["word"] (spPlaces K) := fn_places C
  refine F.ok (CX := CX0) sc_bodies_of (fun vs H Q E h => ?_) (fun cdv A outer s H vs Q E hr h => ?_)
  · obtain ⟨v, t, rfl, _⟩ := h
    rfl
  · obtain ⟨v, t, rfl, rep, q⟩ := h
    refine ⟨_, PSs.nox (pss_one (ps_ret (pe_lc (own := [("place", 1), ("item", 2)]) (g := (gTup K 2 (gCons (gName 1) (gCons (gName 2) gNil)))) rfl sc_bodies_of.nd (RZ.pi_zipA (by rfl) (C.m_zip) (pa_cons (pe_fn F_places_behind (rmm hr) (by rfl) pass0 (pa_cons (pe_ix ix_tup (pv 0) pe_int (fun _ _ => rfl)) pa_nil)) (pa_cons (pe_slice sl_tupR (pv 0) (po_some pe_int) po_none) pa_nil))) (blkOk_by (own := [("place", 1), ("item", 2)]) (N := ["thing", "place", "item"]) (sc := defScope s_bodies_of) (by decide +kernel)) (fun _ _ _ _ _ => pg_tup rfl (pgs_cons (pg_name (i := 1) sc_bodies_of.nd rfl (Or.inl rfl) (Or.inr rfl)) (pgs_cons (pg_name (i := 2) sc_bodies_of.nd rfl (Or.inl rfl) (Or.inr rfl)) pgs_nil))) (fun _ _ _ _ _ => pts_one (pt_cmpR op_eq (pv 1) pe_str (nomark _))) (fun _ _ _ _ _ => (pv 2))))), ?_⟩
    have rep0 := rep
    rw [encT_eq] at rep
    obtain ⟨a, us, rfl, hS, rs⟩ := thing1 rep0
    have h0 := atI_nat (j := 0) (List.getElem?_cons_zero (a := V.str (wdT t)) (l := us))
    walk_at "go"
    refine g_zipA ?_
    walk_at "g"
    refine ⟨t, rfl, fun pa hpl => ?_⟩
    walk_at "g"
    refine ⟨_, (show Rep K H (.ref a) (.tup (.str (wdT t) :: restT t)) from by rw [← encT_eq]; exact rep0), fun v1 H1 c1 r1 => ?_⟩
    rw [show (some (1 : Int)) = some ((1 : Nat) : Int) from rfl, cutT_from] at r1
    obtain ⟨b, ub, rfl, hb, rb⟩ := r1.tupI
    walk_at "g"
    refine ⟨pa, b, _, _, rfl, .inr ⟨hpl H1, hb, fun D nD => ?_⟩⟩
    refine lc_fil (w := "body") (fun _ _ => rfl) (Nat.lt_succ_self 2) c1 nD (hpl H1) hb rb fun H2 c2 ⟨us', eD, r2⟩ => ?_
    rw [fil_bodies] at r2
    exact q H2 D us' c2 (c1.free nD (by simp)) eD r2
theorem fn_parts (C : Cn w K mg base) : Fn P w K mg base CX0 2 "parts_of" ["thing"] (spInner K) := C.f_parts_of fun fd F => by
  have F_places_behind : Fn P w K mg base CX0 1 "places_behind" ["word"] (spPlaces K) := fn_places C
  refine F.ok (CX := CX0) sc_parts_of (fun vs H Q E h => ?_) (fun cdv A outer s H vs Q E hr h => ?_)
  · obtain ⟨v, t, rfl, _⟩ := h
    rfl
  · obtain ⟨v, t, rfl, rep, q⟩ := h
    refine ⟨_, PSs.nox (pss_cons (ps_if (pt_cmpR op_eq (pe_ix ix_tup (pv 0) pe_int (fun _ _ => rfl)) pe_str (nomark _)) (pss_one (ps_ret (pe_callTy call_list_of (by rfl) (C.m_list) (by decide +kernel) (pa_cons (pe_ix ix_tup (pv 0) pe_int (fun _ _ => rfl)) pa_nil)))) pss_nil)
      (pss_one (ps_ret (pe_lc (own := [("place", 1), ("item", 2)]) (g := (gTup K 2 (gCons (gName 1) (gCons (gName 2) gNil)))) rfl sc_parts_of.nd (RZ.pi_zipA (by rfl) (C.m_zip) (pa_cons (pe_fn F_places_behind (rmm hr) (by rfl) pass0 (pa_cons (pe_ix ix_tup (pv 0) pe_int (fun _ _ => rfl)) pa_nil)) (pa_cons (pe_slice sl_tupR (pv 0) (po_some pe_int) po_none) pa_nil))) (blkOk_by (own := [("place", 1), ("item", 2)]) (N := ["thing", "place", "item"]) (sc := defScope s_parts_of) (by decide +kernel)) (fun _ _ _ _ _ => pg_tup rfl (pgs_cons (pg_name (i := 1) sc_parts_of.nd rfl (Or.inl rfl) (Or.inr rfl)) (pgs_cons (pg_name (i := 2) sc_parts_of.nd rfl (Or.inl rfl) (Or.inr rfl)) pgs_nil))) (fun _ _ _ _ _ => pts_one (pt_cmpR op_eq (pv 1) pe_str (nomark _))) (fun _ _ _ _ _ => (pv 2)))))), ?_⟩
    have rep0 := rep
    rw [encT_eq] at rep
    obtain ⟨a, us, rfl, hS, rs⟩ := thing1 rep0
    have h0 := atI_nat (j := 0) (List.getElem?_cons_zero (a := V.str (wdT t)) (l := us))
    walk_at "go"
    refine iteB (fun h => ?_) (fun h => ?_)
    · obtain ⟨f, ps, rfl⟩ : ∃ f ps, t = .p (.call f ps) := by
        cases t with
        | p p => cases p with
          | call f ps => exact ⟨f, ps, rfl⟩
          | _ => rw [wd_call (by trivial)] at h; cases h
        | d d => rw [wd_call (by trivial)] at h; cases h
      obtain ⟨v1, vs2, rfl, _, rs2⟩ := rs.consI
      obtain ⟨v2, vs3, rfl, r2, rs3⟩ := rs2.consI
      obtain rfl := rs3.nilI
      obtain ⟨b, us, rfl, hb, rus⟩ := r2.tupI
      walk_at "g"
      refine fun l nl => ?_
      exact q _ _ us (Ch.new nl) nl upd_same (rus.kt (Ch.new (S := []) nl).kt)
    · have hn : notCall t := by
        cases t with
        | p p => cases p with
          | call f ps => cases h
          | _ => trivial
        | d d => trivial
      walk_at "g"
      refine g_zipA ?_
      walk_at "g"
      refine ⟨t, rfl, fun pa hpl => ?_⟩
      walk_at "g"
      refine ⟨_, (show Rep K H (.ref a) (.tup (.str (wdT t) :: restT t)) from by rw [← encT_eq]; exact rep0), fun v1 H1 c1 r1 => ?_⟩
      rw [show (some (1 : Int)) = some ((1 : Nat) : Int) from rfl, cutT_from] at r1
      obtain ⟨b, ub, rfl, hb, rb⟩ := r1.tupI
      walk_at "g"
      refine ⟨pa, b, _, _, rfl, .inr ⟨hpl H1, hb, fun D nD => ?_⟩⟩
      refine lc_fil (w := "part") (fun _ _ => rfl) (Nat.lt_succ_self 2) c1 nD (hpl H1) hb rb fun H2 c2 ⟨us', eD, r2⟩ => ?_
      rw [fil_parts hn] at r2
      exact q H2 D us' c2 (c1.free nD (by simp)) eD r2
end
end K3
end

section
set_option maxRecDepth 100000
set_option maxHeartbeats 1000000
open Bq L2
/-- one step of a reading; what is left are side goals and places to think -/
local macro_rules | `(tactic| walk_at "g1") => `(tactic| first
  | with_reducible refine' g_seq ?_ | with_reducible refine' g_asg ?_ | with_reducible refine' g_drop ?_ | with_reducible refine' g_ret ?_ | with_reducible refine' g_ifS ?_ | with_reducible refine' g_asgG ?_
  | ((with_reducible refine' g_var ?hv ?_); (case hv => rfl))
  | with_reducible refine' g_c ?_ | with_reducible refine' g_op ?_ | with_reducible refine' g_un ?_ | with_reducible refine' g_I0 ?_ | with_reducible refine' g_U ?_
  | with_reducible refine' g_test ?_ | with_reducible refine' g_tB ?_ | with_reducible refine Exists.intro _ (And.intro rfl ?_) 
  | ((with_reducible refine' g_andP ?ha ?hb ?_); (case ha => intro R q; walk_at "g"; exact q); (case hb => intro R q; walk_at "g"; exact q))
  | ((with_reducible refine' g_orP ?ha ?hb ?_); (case ha => intro R q; walk_at "g"; exact q); (case hb => intro R q; walk_at "g"; exact q))
  | with_reducible refine' g_and ?_ | with_reducible refine' g_or ?_ | with_reducible refine' g_not ?_
  | with_reducible refine' g_andV ?_ | with_reducible refine' g_orV ?_ | with_reducible refine' g_notV ?_ | with_reducible refine' g_if ?_ | with_reducible refine' g_nil ?_ | with_reducible refine' g_cons ?_
  | with_reducible refine' g_tup ?_ | with_reducible refine' g_lst ?_ | with_reducible refine' g_CB ?_ | with_reducible refine' g_Fn ?_ | with_reducible refine' g_next ?_ | with_reducible refine' g_retN ?_
  | with_reducible refine' g_name ?_ | with_reducible refine' g_sub ?_
  | ((with_reducible refine' g_ixL ?hs ?he ?_); (case hs => walk_at "lk"); (case he => walk_at "at"))
  | ((with_reducible refine' g_ixT ?hs ?he ?_); (case hs => walk_at "lk"); (case he => walk_at "at"))
  | ((with_reducible refine' g_setL ?hs ?he ?_); (case hs => walk_at "hp"); (case he => rfl))
  | ((with_reducible refine' g_app ?hs ?hz ?_); (case hs => walk_at "hp"); (case hz => walk_at "sz"))
  | ((with_reducible refine' ⟨_, _, rfl, Or.inl ?hs, ?_⟩); (case hs => walk_at "lk"))
  | ((with_reducible refine' ⟨_, _, rfl, Or.inr ?hs, ?_⟩); (case hs => walk_at "lk"))
  | with_reducible refine' g_BM ?_ | with_reducible refine' g_BM0 ?_ | ((with_reducible refine' g_tyL ?hs ?_); (case hs => walk_at "lk"))
  | with_reducible refine' g_sl ?_ | with_reducible refine' g_noPart ?_ | with_reducible refine' g_part ?_
  | ((with_reducible refine' g_inT ?hs ?fx ?fs ?_); (case hs => walk_at "lk"); (case fx => rfl); (case fs => rfl))
  | with_reducible refine' g_pair ?_ | with_reducible refine' g_pair0 ?_ | with_reducible refine' g_disp ?_
  | with_reducible refine' g_for ?_ | with_reducible refine' g_tupC ?_ | with_reducible refine' g_lstC ?_ | ((with_reducible refine' g_lens ?_)) | with_reducible refine' g_dg ?_ | with_reducible refine' g_lc ?_ | with_reducible refine' g_rng1 ?_ | with_reducible refine' g_ilist ?_ | with_reducible refine' g_itup ?_
  | ((with_reducible refine' ⟨_, _, rfl, ?hd, ?_⟩); (case hd => walk_at "dg"))
  | ((with_reducible refine' g_eqNil ?hs ?hz ?_); (case hs => walk_at "lk"); (case hz => walk_at "lk"))
  | ((with_reducible refine' g_neNil ?hs ?hz ?_); (case hs => walk_at "lk"); (case hz => walk_at "lk"))
  | with_reducible refine Or.inl ⟨_, rfl, ?_⟩
  | with_reducible refine Or.inr ⟨_, rfl, ?_⟩
  | ((with_reducible refine' g_eq ?hs ?_); (case hs => rfl))
  | ((with_reducible refine' g_ne ?hs ?_); (case hs => rfl))
  | ((with_reducible refine' g_I ?hc ?_); (case hc => walk_at "ar")))
/-- arithmetic's side conditions -/
local macro_rules | `(tactic| walk_at "ar") => `(tactic| (first
  | (show (0 : Int) < _; first | omega | decide) | (show (0 : Int) < _ ∧ _; constructor <;> omega) | (show ¬ (_ : Int) = _; omega) | (show (_ : Int) ≠ _ ∧ _; constructor <;> omega)
  | (show (-(2 ^ 64) < _ ∧ _) ∨ _; (first | (left; constructor <;> omega) | (right; constructor <;> omega))) | (show (0 : Int) ≤ _ ∧ _ ∧ _; refine ⟨by omega, by omega, by decide⟩)))
/-- what stands at an index -/
local macro_rules | `(tactic| walk_at "at") => `(tactic| first | rfl | assumption)
/-- what stands at an address -/
local macro_rules | `(tactic| walk_at "hp") => `(tactic| first | assumption | exact upd_same | ((refine' Eq.trans (upd_ne ?hn) ?hm); (case hm => walk_at "hp"); (case hn => walk_at "ne")))
/-- two places are two -/
local macro_rules | `(tactic| walk_at "ne") => `(tactic| first
  | assumption | exact Ne.symm (by assumption)
  | ((refine' ne_of_none ?ha ?hb); (case hb => assumption); (case ha => walk_at "hp")) | ((refine' Ne.symm (ne_of_none ?ha ?hb)); (case hb => assumption); (case ha => walk_at "hp")))
/-- what a dict tells -/
local macro_rules | `(tactic| walk_at "dg") => `(tactic| first | assumption)
/-- a length -/
local macro_rules | `(tactic| walk_at "sz") => `(tactic| first | (show _ ≤ sizeLine; decide) | (show _ < sizeLine; decide) | assumption | exact szlt (by simp) | exact szle (by simp))
/-- a list or tuple that stands -/
local macro_rules | `(tactic| walk_at "lk") => `(tactic| first | assumption | exact SqL.of (by assumption) | exact SqT.of (by assumption) | exact SqL.of upd_same | exact SqT.of upd_same | (refine' FzL.sq ?hm; (case hm => walk_at "fz")))
/-- a list that nobody writes -/
local macro_rules | `(tactic| walk_at "fz") => `(tactic| first | assumption | ((refine' FzL.uw ?hm ?hx); (case hx => walk_at "hp"); (case hm => walk_at "fz")) | ((refine' FzL.nw ?hm ?hx); (case hx => assumption); (case hm => walk_at "fz")))
/-- as far as it goes by itself -/
local macro_rules | `(tactic| walk_at "g") => `(tactic| repeat walk_at "g1")
/-- the body's reading, its places in short -/
local macro_rules | `(tactic| walk_at "go") => `(tactic| ((try dsimp only [cxOf, Cx.nox, Cx.wish]); walk_at "g"))
namespace K3
open PySem PySem.Spec PyProof.Rows L2 Bq
section
variable {P : Program} {w : World} {K : PySem.W.Frag} {mg : Str → Option Value} {base : Heap}
/-- further steps: dicts written, tuples taken apart -/
local macro_rules | `(tactic| walk_at "g1") => `(tactic| first
  | with_reducible refine' g_sdput ?_
  | ((with_reducible refine' g_gtup ?hs ?hl ?_); (case hs => walk_at "lk"); (case hl => rfl))
  | with_reducible refine' g_gcons ?_
  | with_reducible refine' g_gnil ?_
  | with_reducible refine' And.intro (Eq.refl V.non) ?_
  | with_reducible refine' g_isN ?_
  | ((with_reducible refine' g_chainR ?ha ?hb ?hc ?_); (case ha => intro R q; walk_at "g"; exact q); (case hb => intro R q; walk_at "g"; exact q); (case hc => intro R q; walk_at "g"; exact q))
  | with_reducible refine' g_notN ?_)
/-- what the law's dict tells -/
local macro_rules | `(tactic| walk_at "dg") => `(tactic| first
  | assumption
  | exact LH.gfuns (by assumption)
  | exact LH.gsaid (by assumption)
  | exact LH.gcells (by assumption)
  | exact LH.gfuel (by assumption)
  | exact LH.gend (by assumption)
  | exact LH.gcalls (by assumption)
  | exact LH.gnames (by assumption)
  | exact LH.gwaits (by assumption)
  | exact LH.gworth (by assumption)
  | exact LH.glook (by assumption))
/-- a test that fails, that holds, by itself -/
local macro_rules | `(tactic| walk_at "no") => `(tactic| ((refine tkF rfl ?_); walk_at "g"))
local macro_rules | `(tactic| walk_at "yes") => `(tactic| ((refine tkT rfl ?_); walk_at "g"))
/-! ### the looks at a thing -/
def spParamsOf (K : PySem.W.Frag) : Sp := fun vs H Q _ => ∃ v f, vs = [v] ∧ Rep K H v (encF f) ∧ Q (.int (f.ps : Nat)) H
theorem fn_params_of (C : Cn w K mg base) : Fn P w K mg base CX0 2 "params_of" ["fun"] (spParamsOf K) := C.f_params_of fun fd F => by
  have F_is_number : Fn P w K mg base CX0 1 "is_number" ["thing"] (spIsNum K) := fn_is_number C
  refine F.ok (CX := CX0) sc_params_of (fun vs H Q E h => ?_) (fun cdv A outer s H vs Q E hr h => ?_)
  · obtain ⟨v, f, rfl, _⟩ := h
    rfl
  · obtain ⟨v, f, rfl, rep, q⟩ := h
    refine ⟨_, PSs.nox (Evl.pss_cut (ps_if (PW.pt (pw_or (pt_not (pt_val (pe_callB call_isi (by rfl) (C.m_isinstance) (by decide +kernel) (pa_cons (pv 0) (pa_cons (pe_bty "tuple" (by rfl) (C.m_tuple) (by decide +kernel)) pa_nil))))) (pw_or (pt_cmpR op_ne (pe_callB call_len_seq (by rfl) (C.m_len) PySem.boot_len (pa_cons (pv 0) pa_nil)) pe_int (nomark _)) (pw_or1 (pt_not (pt_val (pe_fn F_is_number (rmm hr) (by rfl) pass0 (pa_cons (pe_ix ix_tup (pv 0) pe_int (fun _ _ => rfl)) pa_nil)))))))) (pss_one (ps_ret pe_non)) pss_nil)
      (pss_one (ps_ret (pe_ix ix_tup (pv 0) pe_int (fun _ _ => rfl))))), ?_⟩
    have ty := rep.ty
    obtain ⟨ga, gvs, rfl, hga, rgs⟩ := rep.tupI
    obtain ⟨g0, gr, rfl, r0, rgs⟩ := rgs.consI
    obtain ⟨g1, gr, rfl, r1, rgs⟩ := rgs.consI
    obtain ⟨g2, gr, rfl, r2, rgs⟩ := rgs.consI
    obtain rfl := rgs.nilI
    obtain rfl := r0.intI
    walk_at "go"
    refine g_cut (Mid := fun σ' H' => σ' = L2.start ["fun"] [.ref ga] ∧ H' = H) ?_ ?_
    · walk_at "g"
      refine g_isi ty (kit_tuple (encF f)) ?_
      walk_at "g"
      walk_at "no"
      walk_at "no"
      refine ⟨_, .int (f.ps : Nat), rfl, .int _, ?_⟩
      walk_at "g"
      walk_at "no"
      exact ⟨rfl, rfl⟩
    · rintro _ _ ⟨rfl, rfl⟩
      walk_at "g"
      exact q
def spTakes (K : PySem.W.Frag) : Sp := fun vs H Q _ => ∃ f m pl, ∃ ps : List Nat, vs = [.int (f : Nat), .int (m : Nat), .ref pl] ∧ H pl = some (.lst (ps.map fun n => V.int (n : Nat))) ∧ ps[f]? = some m ∧ Q (.bl true) H
theorem fn_takes (C : Cn w K mg base) : Fn P w K mg base CX0 1 "takes" ["fun", "many", "params"] (spTakes K) := C.f_takes fun fd F => by
  refine F.ok (CX := CX0) sc_takes (fun vs H Q E h => ?_) (fun cdv A outer s H vs Q E hr h => ?_)
  · obtain ⟨f, m, pl, ps, rfl, _⟩ := h
    rfl
  · obtain ⟨f, m, pl, ps, rfl, hpl, hf, q⟩ := h
    refine ⟨_, PSs.nox (pss_cons (ps_if (pt_cmpR op_isN (pe_ix ix_list (pv 2) (pv 0) (fun _ _ => rfl)) pe_non (nomark _)) (pss_one (ps_ret (pe_cmpR op_le (pv 1) (pe_iglob (by rfl) C.i_MOST_PARAMS) (nomark _)))) pss_nil)
      (pss_one (ps_ret (pe_cmpR op_eq (pe_ix ix_list (pv 2) (pv 0) (fun _ _ => rfl)) (pv 1) (nomark _))))), ?_⟩
    have hat : atI (ps.map fun n => V.int (n : Nat)) ((f : Nat) : Int) = some (.int (m : Nat)) := atI_nat (by rw [List.getElem?_map, hf]; rfl)
    walk_at "go"
    walk_at "no"
    rw [show decide (V.int (m : Nat) = V.int (m : Nat)) = true from decide_eq_true rfl]
    exact q
def spBound (K : PySem.W.Frag) : Sp := fun vs H Q _ => ∃ a r x : Int, vs = [.int a, .int r, .int x] ∧ a < 200 ∧ r ≤ 7 ∧ x ≤ 40 ∧ Q (.str "") H
theorem fn_bound (C : Cn w K mg base) : Fn P w K mg base CX0 1 "bound_flaw" ["at", "around", "wide"] (spBound K) := C.f_bound_flaw fun fd F => by
  refine F.ok (CX := CX0) sc_bound_flaw (fun vs H Q E h => ?_) (fun cdv A outer s H vs Q E hr h => ?_)
  · obtain ⟨a, r, x, rfl, _⟩ := h
    rfl
  · obtain ⟨a, r, x, rfl, h1, h2, h3, q⟩ := h
    refine ⟨_, PSs.nox (pss_cons (ps_if (pt_cmpR op_ge (pv 0) (pe_iglob (by rfl) C.i_MOST_THINGS) (nomark _)) (pss_one (ps_ret pe_str)) pss_nil)
      (pss_cons (ps_if (pt_cmpR op_gt (pv 1) (pe_iglob (by rfl) C.i_MOST_DEEDS_AROUND) (nomark _)) (pss_one (ps_ret pe_str)) pss_nil)
      (pss_cons (ps_if (pt_cmpR op_gt (pv 2) (pe_iglob (by rfl) C.i_MOST_PARTS) (nomark _)) (pss_one (ps_ret pe_str)) pss_nil)
      (pss_one (ps_ret pe_str))))), ?_⟩
    walk_at "go"
    refine tkF (decide_eq_false (by omega)) ?_
    walk_at "g"
    refine tkF (decide_eq_false (by omega)) ?_
    walk_at "g"
    refine tkF (decide_eq_false (by omega)) ?_
    walk_at "g"
    exact q
/-- what may stand at a place -/
def okAt (nm : Nat) (n : Nat) (s : Str) (t : T) : Prop :=
  (s = "n" → ∃ z, t = .int z ∧ -1000000 ≤ z ∧ z ≤ 1000000) ∧ (s = "name" → ∃ z : Nat, t = .int z ∧ z < nm) ∧ (s = "fun" → ∃ z : Nat, t = .int z ∧ z < n) ∧ ((s = "body" ∨ s = "parts") → ∃ ts, t = .tup ts) ∧ (s = "n" ∨ s = "name" ∨ s = "fun" ∨ s = "body" ∨ s = "parts" ∨ s = "part")
/-- a thing's own numbers -/
def ownOk (nm : Nat) (ps : List Nat) : Th → Prop
  | .p (.num n) => -1000000 ≤ n ∧ n ≤ 1000000
  | .p (.name i) => i < nm
  | .p (.call f qs) => ps[f]? = some qs.length
  | .d (.set i _) => i < nm
  | _ => True
theorem ok_at {nm : Nat} {ps : List Nat} {t : Th} (h : ownOk nm ps t) {i : Nat} {s : Str} {u : T} (hs : (plT t)[i]? = some s) (hu : (restT t)[i]? = some u) : okAt nm ps.length s u := by
  have hp : ∀ u, okAt nm ps.length "part" u := fun u => ⟨fun z => absurd z (by decide +kernel), fun z => absurd z (by decide +kernel), fun z => absurd z (by decide +kernel), fun z => z.elim (fun z => absurd z (by decide +kernel)) (fun z => absurd z (by decide +kernel)), by simp⟩
  have hb : ∀ ts, okAt nm ps.length "body" (.tup ts) := fun ts => ⟨fun z => absurd z (by decide +kernel), fun z => absurd z (by decide +kernel), fun z => absurd z (by decide +kernel), fun _ => ⟨ts, rfl⟩, by simp⟩
  have hq : ∀ ts, okAt nm ps.length "parts" (.tup ts) := fun ts => ⟨fun z => absurd z (by decide +kernel), fun z => absurd z (by decide +kernel), fun z => absurd z (by decide +kernel), fun _ => ⟨ts, rfl⟩, by simp⟩
  have hn : ∀ z : Int, -1000000 ≤ z → z ≤ 1000000 → okAt nm ps.length "n" (.int z) := fun z a b => ⟨fun _ => ⟨z, rfl, a, b⟩, fun z => absurd z (by decide +kernel), fun z => absurd z (by decide +kernel), fun z => z.elim (fun z => absurd z (by decide +kernel)) (fun z => absurd z (by decide +kernel)), by simp⟩
  have hm : ∀ z : Nat, z < nm → okAt nm ps.length "name" (.int z) := fun z a => ⟨fun z => absurd z (by decide +kernel), fun _ => ⟨z, rfl, a⟩, fun z => absurd z (by decide +kernel), fun z => z.elim (fun z => absurd z (by decide +kernel)) (fun z => absurd z (by decide +kernel)), by simp⟩
  have hf : ∀ z : Nat, z < ps.length → okAt nm ps.length "fun" (.int z) := fun z a => ⟨fun z => absurd z (by decide +kernel), fun z => absurd z (by decide +kernel), fun _ => ⟨z, rfl, a⟩, fun z => z.elim (fun z => absurd z (by decide +kernel)) (fun z => absurd z (by decide +kernel)), by simp⟩
  have hlt : ∀ {f : Nat} {n : Nat}, ps[f]? = some n → f < ps.length := fun h => (List.getElem?_eq_some_iff.mp h).1
  match i with
  | 0 =>
    cases t with
    | p p => cases p with
      | num n => cases hs; cases hu; exact hn _ h.1 h.2
      | name n => cases hs; cases hu; exact hm _ h
      | call f qs => cases hs; cases hu; exact hf _ (hlt h)
      | _ => cases hs; cases hu; exact hp _
    | d d => cases d with
      | set i p => cases hs; cases hu; exact hm _ h
      | _ => cases hs; cases hu; exact hp _
  | 1 =>
    cases t with
    | p p => cases p with
      | bin op a b => cases hs; cases hu; exact hp _
      | call f qs => cases hs; cases hu; exact hq _
      | _ => cases hs
    | d d => cases d with
      | set i p => cases hs; cases hu; exact hp _
      | put i p => cases hs; cases hu; exact hp _
      | ite p a b => cases hs; cases hu; exact hb _
      | whl p a => cases hs; cases hu; exact hb _
      | _ => cases hs
  | 2 =>
    cases t with
    | p p => cases p <;> cases hs
    | d d => cases d with
      | ite p a b => cases hs; cases hu; exact hb _
      | _ => cases hs
  | n + 3 =>
    have h1 := (List.getElem?_eq_some_iff.mp hs).1
    have h2 := plT_le t
    omega
end
end K3
end

section
set_option maxRecDepth 100000
set_option maxHeartbeats 1000000
open Bq L2
/-- one step of a reading; what is left are side goals and places to think -/
local macro_rules | `(tactic| walk_at "g1") => `(tactic| first
  | with_reducible refine' g_seq ?_ | with_reducible refine' g_asg ?_ | with_reducible refine' g_drop ?_ | with_reducible refine' g_ret ?_ | with_reducible refine' g_ifS ?_ | with_reducible refine' g_asgG ?_
  | ((with_reducible refine' g_var ?hv ?_); (case hv => rfl))
  | with_reducible refine' g_c ?_ | with_reducible refine' g_op ?_ | with_reducible refine' g_un ?_ | with_reducible refine' g_I0 ?_ | with_reducible refine' g_U ?_
  | with_reducible refine' g_test ?_ | with_reducible refine' g_tB ?_ | with_reducible refine Exists.intro _ (And.intro rfl ?_) 
  | ((with_reducible refine' g_andP ?ha ?hb ?_); (case ha => intro R q; walk_at "g"; exact q); (case hb => intro R q; walk_at "g"; exact q))
  | ((with_reducible refine' g_orP ?ha ?hb ?_); (case ha => intro R q; walk_at "g"; exact q); (case hb => intro R q; walk_at "g"; exact q))
  | with_reducible refine' g_and ?_ | with_reducible refine' g_or ?_ | with_reducible refine' g_not ?_
  | with_reducible refine' g_andV ?_ | with_reducible refine' g_orV ?_ | with_reducible refine' g_notV ?_ | with_reducible refine' g_if ?_ | with_reducible refine' g_nil ?_ | with_reducible refine' g_cons ?_
  | with_reducible refine' g_tup ?_ | with_reducible refine' g_lst ?_ | with_reducible refine' g_CB ?_ | with_reducible refine' g_Fn ?_ | with_reducible refine' g_next ?_ | with_reducible refine' g_retN ?_
  | with_reducible refine' g_name ?_ | with_reducible refine' g_sub ?_
  | ((with_reducible refine' g_ixL ?hs ?he ?_); (case hs => walk_at "lk"); (case he => walk_at "at"))
  | ((with_reducible refine' g_ixT ?hs ?he ?_); (case hs => walk_at "lk"); (case he => walk_at "at"))
  | ((with_reducible refine' g_setL ?hs ?he ?_); (case hs => walk_at "hp"); (case he => rfl))
  | ((with_reducible refine' g_app ?hs ?hz ?_); (case hs => walk_at "hp"); (case hz => walk_at "sz"))
  | ((with_reducible refine' ⟨_, _, rfl, Or.inl ?hs, ?_⟩); (case hs => walk_at "lk"))
  | ((with_reducible refine' ⟨_, _, rfl, Or.inr ?hs, ?_⟩); (case hs => walk_at "lk"))
  | with_reducible refine' g_BM ?_ | with_reducible refine' g_BM0 ?_ | ((with_reducible refine' g_tyL ?hs ?_); (case hs => walk_at "lk"))
  | with_reducible refine' g_sl ?_ | with_reducible refine' g_noPart ?_ | with_reducible refine' g_part ?_
  | ((with_reducible refine' g_inT ?hs ?fx ?fs ?_); (case hs => walk_at "lk"); (case fx => rfl); (case fs => rfl))
  | with_reducible refine' g_pair ?_ | with_reducible refine' g_pair0 ?_ | with_reducible refine' g_disp ?_
  | with_reducible refine' g_for ?_ | with_reducible refine' g_tupC ?_ | with_reducible refine' g_lstC ?_ | ((with_reducible refine' g_lens ?_)) | with_reducible refine' g_dg ?_ | with_reducible refine' g_lc ?_ | with_reducible refine' g_rng1 ?_ | with_reducible refine' g_ilist ?_ | with_reducible refine' g_itup ?_
  | ((with_reducible refine' ⟨_, _, rfl, ?hd, ?_⟩); (case hd => walk_at "dg"))
  | ((with_reducible refine' g_eqNil ?hs ?hz ?_); (case hs => walk_at "lk"); (case hz => walk_at "lk"))
  | ((with_reducible refine' g_neNil ?hs ?hz ?_); (case hs => walk_at "lk"); (case hz => walk_at "lk"))
  | with_reducible refine Or.inl ⟨_, rfl, ?_⟩
  | with_reducible refine Or.inr ⟨_, rfl, ?_⟩
  | ((with_reducible refine' g_eq ?hs ?_); (case hs => rfl))
  | ((with_reducible refine' g_ne ?hs ?_); (case hs => rfl))
  | ((with_reducible refine' g_I ?hc ?_); (case hc => walk_at "ar")))
/-- arithmetic's side conditions -/
local macro_rules | `(tactic| walk_at "ar") => `(tactic| (first
  | (show (0 : Int) < _; first | omega | decide) | (show (0 : Int) < _ ∧ _; constructor <;> omega) | (show ¬ (_ : Int) = _; omega) | (show (_ : Int) ≠ _ ∧ _; constructor <;> omega)
  | (show (-(2 ^ 64) < _ ∧ _) ∨ _; (first | (left; constructor <;> omega) | (right; constructor <;> omega))) | (show (0 : Int) ≤ _ ∧ _ ∧ _; refine ⟨by omega, by omega, by decide⟩)))
/-- what stands at an index -/
local macro_rules | `(tactic| walk_at "at") => `(tactic| first | rfl | assumption)
/-- what stands at an address -/
local macro_rules | `(tactic| walk_at "hp") => `(tactic| first | assumption | exact upd_same | ((refine' Eq.trans (upd_ne ?hn) ?hm); (case hm => walk_at "hp"); (case hn => walk_at "ne")))
/-- two places are two -/
local macro_rules | `(tactic| walk_at "ne") => `(tactic| first
  | assumption | exact Ne.symm (by assumption)
  | ((refine' ne_of_none ?ha ?hb); (case hb => assumption); (case ha => walk_at "hp")) | ((refine' Ne.symm (ne_of_none ?ha ?hb)); (case hb => assumption); (case ha => walk_at "hp")))
/-- what a dict tells -/
local macro_rules | `(tactic| walk_at "dg") => `(tactic| first | assumption)
/-- a length -/
local macro_rules | `(tactic| walk_at "sz") => `(tactic| first | (show _ ≤ sizeLine; decide) | (show _ < sizeLine; decide) | assumption | exact szlt (by simp) | exact szle (by simp))
/-- a list or tuple that stands -/
local macro_rules | `(tactic| walk_at "lk") => `(tactic| first | assumption | exact SqL.of (by assumption) | exact SqT.of (by assumption) | exact SqL.of upd_same | exact SqT.of upd_same | (refine' FzL.sq ?hm; (case hm => walk_at "fz")))
/-- a list that nobody writes -/
local macro_rules | `(tactic| walk_at "fz") => `(tactic| first | assumption | ((refine' FzL.uw ?hm ?hx); (case hx => walk_at "hp"); (case hm => walk_at "fz")) | ((refine' FzL.nw ?hm ?hx); (case hx => assumption); (case hm => walk_at "fz")))
/-- as far as it goes by itself -/
local macro_rules | `(tactic| walk_at "g") => `(tactic| repeat walk_at "g1")
/-- the body's reading, its places in short -/
local macro_rules | `(tactic| walk_at "go") => `(tactic| ((try dsimp only [cxOf, Cx.nox, Cx.wish]); walk_at "g"))
namespace K3
open PySem PySem.Spec PyProof.Rows L2 Bq
section
variable {P : Program} {w : World} {K : PySem.W.Frag} {mg : Str → Option Value} {base : Heap}
/-- further steps: dicts written, tuples taken apart -/
local macro_rules | `(tactic| walk_at "g1") => `(tactic| first
  | with_reducible refine' g_sdput ?_
  | ((with_reducible refine' g_gtup ?hs ?hl ?_); (case hs => walk_at "lk"); (case hl => rfl))
  | with_reducible refine' g_gcons ?_
  | with_reducible refine' g_gnil ?_
  | with_reducible refine' And.intro (Eq.refl V.non) ?_
  | with_reducible refine' g_isN ?_
  | ((with_reducible refine' g_chainR ?ha ?hb ?hc ?_); (case ha => intro R q; walk_at "g"; exact q); (case hb => intro R q; walk_at "g"; exact q); (case hc => intro R q; walk_at "g"; exact q))
  | with_reducible refine' g_notN ?_)
/-- what the law's dict tells -/
local macro_rules | `(tactic| walk_at "dg") => `(tactic| first
  | assumption
  | exact LH.gfuns (by assumption)
  | exact LH.gsaid (by assumption)
  | exact LH.gcells (by assumption)
  | exact LH.gfuel (by assumption)
  | exact LH.gend (by assumption)
  | exact LH.gcalls (by assumption)
  | exact LH.gnames (by assumption)
  | exact LH.gwaits (by assumption)
  | exact LH.gworth (by assumption)
  | exact LH.glook (by assumption))
/-- a test that fails, that holds, by itself -/
local macro_rules | `(tactic| walk_at "no") => `(tactic| ((refine tkF rfl ?_); walk_at "g"))
local macro_rules | `(tactic| walk_at "yes") => `(tactic| ((refine tkT rfl ?_); walk_at "g"))
def isP : Th → Bool
  | .p _ => true
  | .d _ => false
def spShape (K : PySem.W.Frag) : Sp := fun vs H Q _ => ∃ v t nm ps, ∃ r : Int, vs = [v, .int r] ∧ Rep K H v (encT t) ∧ ownOk nm ps t ∧ (isP t = true → r = -1) ∧ (isP t = false → 0 ≤ r) ∧ ∀ H', Ch K [] H H' → Q (.str "") H'
theorem fn_shape (C : Cn w K mg base) : Fn P w K mg base CX0 2 "shape_flaw" ["thing", "around"] (spShape K) := C.f_shape_flaw fun fd F => by
  have F_is_number : Fn P w K mg base CX0 1 "is_number" ["thing"] (spIsNum K) := fn_is_number C
  have F_places_behind : Fn P w K mg base CX0 1 "places_behind" ["word"] (spPlaces K) := fn_places C
  refine F.ok (CX := CX0) sc_shape_flaw (fun vs H Q E h => ?_) (fun cdv A outer s H vs Q E hr h => ?_)
  · obtain ⟨v, t, nm, ps, r, rfl, _⟩ := h
    rfl
  · obtain ⟨v, t, nm, ps, r, rfl, rep0, own, hp, hd, q⟩ := h
    refine ⟨_, PSs.nox (pss_cons (ps_if (pt_mid (PW.pt (pw_or (pt_not (pt_val (pe_callB call_isi (by rfl) (C.m_isinstance) (by decide +kernel) (pa_cons (pv 0) (pa_cons (pe_bty "tuple" (by rfl) (C.m_tuple) (by decide +kernel)) pa_nil))))) (pw_or (pt_cmpR op_eq (pe_callB call_len_seq (by rfl) (C.m_len) PySem.boot_len (pa_cons (pv 0) pa_nil)) pe_int (nomark _)) (pw_or1 (pt_not (pt_val (pe_callB call_isi (by rfl) (C.m_isinstance) (by decide +kernel) (pa_cons (pe_ix ix_tup (pv 0) pe_int (fun _ _ => rfl)) (pa_cons (pe_bty "str" (by rfl) (C.m_str) (by decide +kernel)) pa_nil)))))))))) (pss_one (ps_ret pe_str)) pss_nil)
      (pss_cons (ps_set (i := 2) sc_shape_flaw.nd rfl (Or.inl rfl) (pe_mid (pe_ifExp (pt_cmpR op_eq (pv 1) (pe_iglob (by rfl) C.i_A_PART) (nomark _)) (pe_cmpR (op_in_mod C.k_PARTS) (pe_ix ix_tup (pv 0) pe_int (fun _ _ => rfl)) (pe_glob (v := .ref _) (by rfl) C.g_PARTS rfl) (by rfl)) (pe_cmpR (op_in_mod C.k_DEEDS) (pe_ix ix_tup (pv 0) pe_int (fun _ _ => rfl)) (pe_glob (v := .ref _) (by rfl) C.g_DEEDS rfl) (by rfl)))))
      (Evl.pss_cut (ps_if (PW.pt (pw_or (pt_not (pt_val (pv 2))) (pw_or1 (pt_cmpR op_ne (pe_callB call_len_seq (by rfl) (C.m_len) PySem.boot_len (pa_cons (pv 0) pa_nil)) (pe_op op_add (pe_callB call_len_seq (by rfl) (C.m_len) PySem.boot_len (pa_cons (pe_fn F_places_behind (rmm hr) (by rfl) pass0 (pa_cons (pe_ix ix_tup (pv 0) pe_int (fun _ _ => rfl)) pa_nil)) pa_nil)) pe_int) (nomark _))))) (pss_one (ps_ret pe_str)) pss_nil)
      (pss_cons (ps_for PassesOwn.never rfl (RZ.pi_zipA (by rfl) (C.m_zip) (pa_cons (pe_fn F_places_behind (rmm hr) (by rfl) pass0 (pa_cons (pe_ix ix_tup (pv 0) pe_int (fun _ _ => rfl)) pa_nil)) (pa_cons (pe_slice sl_tupR (pv 0) (po_some pe_int) po_none) pa_nil))) (pg_tup rfl (pgs_cons (pg_name (i := 3) sc_shape_flaw.nd rfl (Or.inl rfl)) (pgs_cons (pg_name (i := 4) sc_shape_flaw.nd rfl (Or.inl rfl)) pgs_nil))) (Evl.pss_cut (ps_if (PW.pt (pw_and (pt_cmpR op_in_seq (pv 3) (pe_glob (v := .ref _) (by rfl) C.g_NUMBER_PLACES rfl) (by rfl)) (pw_and1 (pt_not (pt_val (pe_fn F_is_number (rmm hr) (by rfl) pass0 (pa_cons (pv 4) pa_nil))))))) (pss_one (ps_ret pe_str)) pss_nil)
      (pss_one (ps_if (pt_mid (PW.pt (pw_and (pt_cmpR op_in_seq (pv 3) (pe_glob (v := .ref _) (by rfl) C.g_TUPLE_PLACES rfl) (by rfl)) (pw_and1 (pt_not (pt_val (pe_callB call_isi (by rfl) (C.m_isinstance) (by decide +kernel) (pa_cons (pv 4) (pa_cons (pe_bty "tuple" (by rfl) (C.m_tuple) (by decide +kernel)) pa_nil))))))))) (pss_one (ps_ret pe_str)) pss_nil))))
      (pss_one (ps_ret pe_str)))))), ?_⟩
    have ty := rep0.ty
    have rep := rep0
    rw [encT_eq] at rep
    have tdt := deeds_tab C t
    have tpt := parts_tab C t
    obtain ⟨a, us, rfl, hS, rs⟩ := thing1 rep0
    have h0 := atI_nat (j := 0) (List.getElem?_cons_zero (a := V.str (wdT t)) (l := us))
    have tyw : TyX K H (.str (wdT t)) (.type "str") := Rep.ty (.str (wdT t))
    walk_at "go"
    refine g_mid (fun b H' => b = false ∧ H' = H) ?_ ?_
    · walk_at "g"
      refine g_isi ty (by rw [encT_eq]; exact kit_tuple (.tup _)) ?_
      walk_at "g"
      walk_at "no"
      refine tkF (decide_eq_false (fun z => by simp only [V.int.injEq, List.length_cons] at z; omega)) ?_
      walk_at "g"
      refine g_isi tyw (kit_str (.str (wdT t))) ?_
      walk_at "g"
      exact ⟨rfl, rfl⟩
    · rintro _ H1 ⟨rfl, e1⟩
      rw [e1]
      walk_at "no"
      refine g_midE (fun v' H' => v' = .bl true ∧ H' = H) ?_ ?_
      · walk_at "g"
        cases t with
        | p p =>
          obtain ⟨ta, hta, _⟩ := tpt
          rw [hp rfl]
          walk_at "yes"
          exact ⟨_, _, rfl, rfl, hta, rfl, rfl⟩
        | d d =>
          obtain ⟨ta, hta, _⟩ := tdt
          have := hd rfl
          refine tkF (decide_eq_false (fun z => by simp only [V.int.injEq] at z; omega)) ?_
          walk_at "g"
          exact ⟨_, _, rfl, rfl, hta, rfl, rfl⟩
      · rintro _ H2 ⟨rfl, e2⟩
        rw [e2]
        clear e1 e2 H1 H2
        walk_at "g"
        refine g_cut (Mid := fun σ' H' => σ' = [some (.ref a), some (.int r), some (.bl true), none, none] ∧ H' = H) ?_ ?_
        · walk_at "g"
          walk_at "no"
          refine ⟨t, rfl, fun pa hpl => ?_⟩
          have hpl' := hpl H
          walk_at "g"
          have e3 : (V.str (wdT t) :: us).length = ((plT t).map V.str).length + 1 := by rw [List.length_cons, List.length_map, plT_len, rs.len]
          refine tkF ?_ ?_
          · rw [e3]
            simp
          · walk_at "g"
            exact ⟨rfl, rfl⟩
        · rintro _ _ ⟨rfl, rfl⟩
          walk_at "g"
          refine g_zipA ?_
          walk_at "g"
          refine ⟨t, rfl, fun pa hpl => ?_⟩
          walk_at "g"
          refine ⟨_, rep, fun v1 H1 c1 r1 => ?_⟩
          rw [show (some (1 : Int)) = some ((1 : Nat) : Int) from rfl, cutT_from] at r1
          obtain ⟨b, ub, rfl, hb, rb⟩ := r1.tupI
          walk_at "g"
          refine ⟨pa, b, _, _, rfl, .inr ⟨hpl H1, hb, ?_⟩⟩
          have rb' : Reps K H1 ub (restT t) := rb
          have ll : ((plT t).map V.str).length = ub.length := by rw [List.length_map, plT_len, rb'.len]
          refine RZ.for_zipT ll (fun i σ H' => ∃ x y, σ = [some (.ref a), some (.int r), some (.bl true), x, y] ∧ Ch K [] H1 H') ⟨none, none, rfl, Ch.refl⟩ (fun i σ H' ⟨_, _, _, c⟩ => ⟨hpl H', c.sqT hb⟩) ?_ ?_
          · rintro i x y T σ H2 hx hy ⟨x3, x4, rfl, c2⟩ nT
            rw [List.getElem?_map] at hx
            cases es : (plT t)[i]? with
            | none => rw [es] at hx; cases hx
            | some s =>
              rw [es] at hx
              obtain rfl : V.str s = x := Option.some.inj hx
              obtain ⟨ty, ety, ry⟩ := rb'.get hy
              obtain ⟨o1, o2, o3, o4, o5⟩ := ok_at own es ety
              have cT : Ch K [] H2 (upd H2 T (.tup [.str s, y])) := Ch.new nT
              have eT : (upd H2 T (.tup [.str s, y])) T = some (.tup [.str s, y]) := upd_same
              generalize upd H2 T (.tup [.str s, y]) = H3 at cT eT ⊢
              have ry3 := ry.kt (c2.trans cT).kt
              have hNP := C.t_NUMBER_PLACES H3
              have hTP := C.t_TUPLE_PLACES H3
              walk_at "g"
              refine g_cut (Mid := fun σ' H' => σ' = [some (.ref a), some (.int r), some (.bl true), some (.str s), some y] ∧ H' = H3) ?_ ?_
              · walk_at "g"
                refine iteB (fun hc => ?_) (fun hc => ?_)
                · have hi : ∃ z, ty = .int z := by
                    have : s = "n" ∨ s = "name" ∨ s = "fun" := by
                      rcases o5 with h | h | h | h | h | h
                      · exact .inl h
                      · exact .inr (.inl h)
                      · exact .inr (.inr h)
                      · subst h; cases hc
                      · subst h; cases hc
                      · subst h; cases hc
                    rcases this with h | h | h
                    · obtain ⟨z, e, _⟩ := o1 h; exact ⟨z, e⟩
                    · obtain ⟨z, e, _⟩ := o2 h; exact ⟨_, e⟩
                    · obtain ⟨z, e, _⟩ := o3 h; exact ⟨_, e⟩
                  obtain ⟨z, rfl⟩ := hi
                  walk_at "g"
                  refine ⟨y, .int z, rfl, ry3, ?_⟩
                  walk_at "g"
                  walk_at "no"
                  exact ⟨rfl, rfl⟩
                · walk_at "no"
                  exact ⟨rfl, rfl⟩
              · rintro _ H4 ⟨rfl, e4⟩
                rw [e4]
                clear e4 H4
                walk_at "g"
                refine g_mid (fun b H' => b = false ∧ H' = H3) ?_ ?_
                · walk_at "g"
                  refine iteB (fun hc => ?_) (fun hc => ?_)
                  · have hi : ∃ ts, ty = .tup ts := by
                      refine o4 ?_
                      rcases o5 with h | h | h | h | h | h
                      · subst h; cases hc
                      · subst h; cases hc
                      · subst h; cases hc
                      · exact .inl h
                      · exact .inr h
                      · subst h; cases hc
                    obtain ⟨ts, rfl⟩ := hi
                    walk_at "g"
                    refine g_isi ry3.ty (kit_tuple (.tup ts)) ?_
                    walk_at "g"
                    exact ⟨rfl, rfl⟩
                  · exact ⟨rfl, rfl⟩
                · rintro _ H4 ⟨rfl, e4⟩
                  rw [e4]
                  walk_at "no"
                  exact ⟨_, _, rfl, c2.trans cT⟩
          · rintro σ H2 ⟨x3, x4, rfl, c2⟩
            walk_at "g"
            exact q H2 (c1.trans c2)
end
end K3
end

section
set_option maxRecDepth 100000
set_option maxHeartbeats 1000000
open Bq L2
/-- one step of a reading; what is left are side goals and places to think -/
local macro_rules | `(tactic| walk_at "g1") => `(tactic| first
  | with_reducible refine' g_seq ?_ | with_reducible refine' g_asg ?_ | with_reducible refine' g_drop ?_ | with_reducible refine' g_ret ?_ | with_reducible refine' g_ifS ?_ | with_reducible refine' g_asgG ?_
  | ((with_reducible refine' g_var ?hv ?_); (case hv => rfl))
  | with_reducible refine' g_c ?_ | with_reducible refine' g_op ?_ | with_reducible refine' g_un ?_ | with_reducible refine' g_I0 ?_ | with_reducible refine' g_U ?_
  | with_reducible refine' g_test ?_ | with_reducible refine' g_tB ?_ | with_reducible refine Exists.intro _ (And.intro rfl ?_) 
  | ((with_reducible refine' g_andP ?ha ?hb ?_); (case ha => intro R q; walk_at "g"; exact q); (case hb => intro R q; walk_at "g"; exact q))
  | ((with_reducible refine' g_orP ?ha ?hb ?_); (case ha => intro R q; walk_at "g"; exact q); (case hb => intro R q; walk_at "g"; exact q))
  | with_reducible refine' g_and ?_ | with_reducible refine' g_or ?_ | with_reducible refine' g_not ?_
  | with_reducible refine' g_andV ?_ | with_reducible refine' g_orV ?_ | with_reducible refine' g_notV ?_ | with_reducible refine' g_if ?_ | with_reducible refine' g_nil ?_ | with_reducible refine' g_cons ?_
  | with_reducible refine' g_tup ?_ | with_reducible refine' g_lst ?_ | with_reducible refine' g_CB ?_ | with_reducible refine' g_Fn ?_ | with_reducible refine' g_next ?_ | with_reducible refine' g_retN ?_
  | with_reducible refine' g_name ?_ | with_reducible refine' g_sub ?_
  | ((with_reducible refine' g_ixL ?hs ?he ?_); (case hs => walk_at "lk"); (case he => walk_at "at"))
  | ((with_reducible refine' g_ixT ?hs ?he ?_); (case hs => walk_at "lk"); (case he => walk_at "at"))
  | ((with_reducible refine' g_setL ?hs ?he ?_); (case hs => walk_at "hp"); (case he => rfl))
  | ((with_reducible refine' g_app ?hs ?hz ?_); (case hs => walk_at "hp"); (case hz => walk_at "sz"))
  | ((with_reducible refine' ⟨_, _, rfl, Or.inl ?hs, ?_⟩); (case hs => walk_at "lk"))
  | ((with_reducible refine' ⟨_, _, rfl, Or.inr ?hs, ?_⟩); (case hs => walk_at "lk"))
  | with_reducible refine' g_BM ?_ | with_reducible refine' g_BM0 ?_ | ((with_reducible refine' g_tyL ?hs ?_); (case hs => walk_at "lk"))
  | with_reducible refine' g_sl ?_ | with_reducible refine' g_noPart ?_ | with_reducible refine' g_part ?_
  | ((with_reducible refine' g_inT ?hs ?fx ?fs ?_); (case hs => walk_at "lk"); (case fx => rfl); (case fs => rfl))
  | with_reducible refine' g_pair ?_ | with_reducible refine' g_pair0 ?_ | with_reducible refine' g_disp ?_
  | with_reducible refine' g_for ?_ | with_reducible refine' g_tupC ?_ | with_reducible refine' g_lstC ?_ | ((with_reducible refine' g_lens ?_)) | with_reducible refine' g_dg ?_ | with_reducible refine' g_lc ?_ | with_reducible refine' g_rng1 ?_ | with_reducible refine' g_ilist ?_ | with_reducible refine' g_itup ?_
  | ((with_reducible refine' ⟨_, _, rfl, ?hd, ?_⟩); (case hd => walk_at "dg"))
  | ((with_reducible refine' g_eqNil ?hs ?hz ?_); (case hs => walk_at "lk"); (case hz => walk_at "lk"))
  | ((with_reducible refine' g_neNil ?hs ?hz ?_); (case hs => walk_at "lk"); (case hz => walk_at "lk"))
  | with_reducible refine Or.inl ⟨_, rfl, ?_⟩
  | with_reducible refine Or.inr ⟨_, rfl, ?_⟩
  | ((with_reducible refine' g_eq ?hs ?_); (case hs => rfl))
  | ((with_reducible refine' g_ne ?hs ?_); (case hs => rfl))
  | ((with_reducible refine' g_I ?hc ?_); (case hc => walk_at "ar")))
/-- arithmetic's side conditions -/
local macro_rules | `(tactic| walk_at "ar") => `(tactic| (first
  | (show (0 : Int) < _; first | omega | decide) | (show (0 : Int) < _ ∧ _; constructor <;> omega) | (show ¬ (_ : Int) = _; omega) | (show (_ : Int) ≠ _ ∧ _; constructor <;> omega)
  | (show (-(2 ^ 64) < _ ∧ _) ∨ _; (first | (left; constructor <;> omega) | (right; constructor <;> omega))) | (show (0 : Int) ≤ _ ∧ _ ∧ _; refine ⟨by omega, by omega, by decide⟩)))
/-- what stands at an index -/
local macro_rules | `(tactic| walk_at "at") => `(tactic| first | rfl | assumption)
/-- what stands at an address -/
local macro_rules | `(tactic| walk_at "hp") => `(tactic| first | assumption | exact upd_same | ((refine' Eq.trans (upd_ne ?hn) ?hm); (case hm => walk_at "hp"); (case hn => walk_at "ne")))
/-- two places are two -/
local macro_rules | `(tactic| walk_at "ne") => `(tactic| first
  | assumption | exact Ne.symm (by assumption)
  | ((refine' ne_of_none ?ha ?hb); (case hb => assumption); (case ha => walk_at "hp")) | ((refine' Ne.symm (ne_of_none ?ha ?hb)); (case hb => assumption); (case ha => walk_at "hp")))
/-- what a dict tells -/
local macro_rules | `(tactic| walk_at "dg") => `(tactic| first | assumption)
/-- a length -/
local macro_rules | `(tactic| walk_at "sz") => `(tactic| first | (show _ ≤ sizeLine; decide) | (show _ < sizeLine; decide) | assumption | exact szlt (by simp) | exact szle (by simp))
/-- a list or tuple that stands -/
local macro_rules | `(tactic| walk_at "lk") => `(tactic| first | assumption | exact SqL.of (by assumption) | exact SqT.of (by assumption) | exact SqL.of upd_same | exact SqT.of upd_same | (refine' FzL.sq ?hm; (case hm => walk_at "fz")))
/-- a list that nobody writes -/
local macro_rules | `(tactic| walk_at "fz") => `(tactic| first | assumption | ((refine' FzL.uw ?hm ?hx); (case hx => walk_at "hp"); (case hm => walk_at "fz")) | ((refine' FzL.nw ?hm ?hx); (case hx => assumption); (case hm => walk_at "fz")))
/-- as far as it goes by itself -/
local macro_rules | `(tactic| walk_at "g") => `(tactic| repeat walk_at "g1")
/-- the body's reading, its places in short -/
local macro_rules | `(tactic| walk_at "go") => `(tactic| ((try dsimp only [cxOf, Cx.nox, Cx.wish]); walk_at "g"))
namespace K3
open PySem PySem.Spec PyProof.Rows L2 Bq
section
variable {P : Program} {w : World} {K : PySem.W.Frag} {mg : Str → Option Value} {base : Heap}
/-- further steps: dicts written, tuples taken apart -/
local macro_rules | `(tactic| walk_at "g1") => `(tactic| first
  | with_reducible refine' g_sdput ?_
  | ((with_reducible refine' g_gtup ?hs ?hl ?_); (case hs => walk_at "lk"); (case hl => rfl))
  | with_reducible refine' g_gcons ?_
  | with_reducible refine' g_gnil ?_
  | with_reducible refine' And.intro (Eq.refl V.non) ?_
  | with_reducible refine' g_isN ?_
  | ((with_reducible refine' g_chainR ?ha ?hb ?hc ?_); (case ha => intro R q; walk_at "g"; exact q); (case hb => intro R q; walk_at "g"; exact q); (case hc => intro R q; walk_at "g"; exact q))
  | with_reducible refine' g_notN ?_)
/-- what the law's dict tells -/
local macro_rules | `(tactic| walk_at "dg") => `(tactic| first
  | assumption
  | exact LH.gfuns (by assumption)
  | exact LH.gsaid (by assumption)
  | exact LH.gcells (by assumption)
  | exact LH.gfuel (by assumption)
  | exact LH.gend (by assumption)
  | exact LH.gcalls (by assumption)
  | exact LH.gnames (by assumption)
  | exact LH.gwaits (by assumption)
  | exact LH.gworth (by assumption)
  | exact LH.glook (by assumption))
/-- a test that fails, that holds, by itself -/
local macro_rules | `(tactic| walk_at "no") => `(tactic| ((refine tkF rfl ?_); walk_at "g"))
local macro_rules | `(tactic| walk_at "yes") => `(tactic| ((refine tkT rfl ?_); walk_at "g"))
def spNumber (K : PySem.W.Frag) : Sp := fun vs H Q _ => ∃ v t nm pl, ∃ ps : List Nat, vs = [v, .int (nm : Nat), .ref pl] ∧ Rep K H v (encT t) ∧ H pl = some (.lst (ps.map fun n => V.int (n : Nat))) ∧ ownOk nm ps t ∧ ∀ H', Ch K [] H H' → Q (.str "") H'
theorem fn_number (C : Cn w K mg base) : Fn P w K mg base CX0 2 "number_flaw" ["thing", "names", "params"] (spNumber K) := C.f_number_flaw fun fd F => by
  have F_takes : Fn P w K mg base CX0 1 "takes" ["fun", "many", "params"] (spTakes K) := fn_takes C
  have F_places_behind : Fn P w K mg base CX0 1 "places_behind" ["word"] (spPlaces K) := fn_places C
  refine F.ok (CX := CX0) sc_number_flaw (fun vs H Q E h => ?_) (fun cdv A outer s H vs Q E hr h => ?_)
  · obtain ⟨v, t, nm, pl, ps, rfl, _⟩ := h
    rfl
  · obtain ⟨v, t, nm, pl, ps, rfl, rep0, hpl0, own, q⟩ := h
    refine ⟨_, PSs.nox (pss_cons (ps_for PassesOwn.never rfl (RZ.pi_zipA (by rfl) (C.m_zip) (pa_cons (pe_fn F_places_behind (rmm hr) (by rfl) pass0 (pa_cons (pe_ix ix_tup (pv 0) pe_int (fun _ _ => rfl)) pa_nil)) (pa_cons (pe_slice sl_tupR (pv 0) (po_some pe_int) po_none) pa_nil))) (pg_tup rfl (pgs_cons (pg_name (i := 3) sc_number_flaw.nd rfl (Or.inl rfl)) (pgs_cons (pg_name (i := 4) sc_number_flaw.nd rfl (Or.inl rfl)) pgs_nil))) (pss_cons (ps_if (pt_mid (PW.pt (pw_and (pt_cmpR op_eq (pv 3) pe_str (nomark _)) (pw_and1 (pt_cmpR op_gt (pe_callB call_abs (by rfl) (C.m_abs) (by decide +kernel) (pa_cons (pv 4) pa_nil)) (pe_iglob (by rfl) C.i_MOST_NUM) (nomark _)))))) (pss_one (ps_ret pe_str)) pss_nil)
      (pss_cons (ps_if (pt_mid (PW.pt (pw_and (pt_cmpR op_eq (pv 3) pe_str (nomark _)) (pw_and1 (pt_not (pt_chain op_le op_lt pe_int (pv 4) (pv 1))))))) (pss_one (ps_ret pe_str)) pss_nil)
      (pss_one (ps_if (pt_mid (PW.pt (pw_and (pt_cmpR op_eq (pv 3) pe_str (nomark _)) (pw_and1 (pt_not (pt_chain op_le op_lt pe_int (pv 4) (pe_callB call_len_seq (by rfl) (C.m_len) PySem.boot_len (pa_cons (pv 2) pa_nil)))))))) (pss_one (ps_ret pe_str)) pss_nil)))))
      (pss_cons (ps_if (pt_mid (PW.pt (pw_and (pt_cmpR op_eq (pe_ix ix_tup (pv 0) pe_int (fun _ _ => rfl)) pe_str (nomark _)) (pw_and1 (pt_not (pt_val (pe_fn F_takes (rmm hr) (by rfl) pass0 (pa_cons (pe_ix ix_tup (pv 0) pe_int (fun _ _ => rfl)) (pa_cons (pe_callB call_len_seq (by rfl) (C.m_len) PySem.boot_len (pa_cons (pe_ix ix_tup (pv 0) pe_int (fun _ _ => rfl)) pa_nil)) (pa_cons (pv 2) pa_nil)))))))))) (pss_one (ps_ret pe_str)) pss_nil)
      (pss_one (ps_ret pe_str)))), ?_⟩
    have rep := rep0
    rw [encT_eq] at rep
    obtain ⟨a, us, rfl, hS, rs⟩ := thing1 rep0
    have h0 := atI_nat (j := 0) (List.getElem?_cons_zero (a := V.str (wdT t)) (l := us))
    walk_at "go"
    refine g_zipA ?_
    walk_at "g"
    refine ⟨t, rfl, fun pa hpl => ?_⟩
    walk_at "g"
    refine ⟨_, rep, fun v1 H1 c1 r1 => ?_⟩
    rw [show (some (1 : Int)) = some ((1 : Nat) : Int) from rfl, cutT_from] at r1
    obtain ⟨b, ub, rfl, hb, rb⟩ := r1.tupI
    walk_at "g"
    refine ⟨pa, b, _, _, rfl, .inr ⟨hpl H1, hb, ?_⟩⟩
    have rb' : Reps K H1 ub (restT t) := rb
    have ll : ((plT t).map V.str).length = ub.length := by rw [List.length_map, plT_len, rb'.len]
    refine RZ.for_zipT ll (fun i σ H' => ∃ x y, σ = [some (.ref a), some (.int (nm : Nat)), some (.ref pl), x, y] ∧ Ch K [] H1 H') ⟨none, none, rfl, Ch.refl⟩ (fun i σ H' ⟨_, _, _, c⟩ => ⟨hpl H', c.sqT hb⟩) ?_ ?_
    · rintro i x y T σ H2 hx hy ⟨x3, x4, rfl, c2⟩ nT
      rw [List.getElem?_map] at hx
      cases es : (plT t)[i]? with
      | none => rw [es] at hx; cases hx
      | some s =>
        rw [es] at hx
        obtain rfl : V.str s = x := Option.some.inj hx
        obtain ⟨ty, ety, ry⟩ := rb'.get hy
        obtain ⟨o1, o2, o3, o4, o5⟩ := ok_at own es ety
        have cT : Ch K [] H2 (upd H2 T (.tup [.str s, y])) := Ch.new nT
        have eT : (upd H2 T (.tup [.str s, y])) T = some (.tup [.str s, y]) := upd_same
        generalize upd H2 T (.tup [.str s, y]) = H3 at cT eT ⊢
        have ry3 := ry.kt (c2.trans cT).kt
        have hpl3 := (c1.trans (c2.trans cT)).up _ _ hpl0 (by simp)
        walk_at "g"
        refine g_mid (fun b H' => b = false ∧ H' = H3) ?_ ?_
        · walk_at "g"
          refine iteB (fun hc => ?_) (fun hc => ?_)
          · have hs : s = "n" := by
              have := of_decide_eq_true hc
              injection this
            obtain ⟨z, rfl, z1, z2⟩ := o1 hs
            obtain rfl := ry3.intI
            walk_at "g"
            refine ⟨decide_eq_false ?_, rfl⟩
            split <;> omega
          · exact ⟨rfl, rfl⟩
        · rintro _ H4 ⟨rfl, e4⟩
          rw [e4]
          clear e4 H4
          walk_at "no"
          refine g_mid (fun b H' => b = false ∧ H' = H3) ?_ ?_
          · walk_at "g"
            refine iteB (fun hc => ?_) (fun hc => ?_)
            · have hs : s = "name" := by
                have := of_decide_eq_true hc
                injection this
              obtain ⟨z, rfl, z1⟩ := o2 hs
              obtain rfl := ry3.intI
              walk_at "g"
              refine ⟨?_, rfl⟩
              simp
              omega
            · exact ⟨rfl, rfl⟩
          · rintro _ H4 ⟨rfl, e4⟩
            rw [e4]
            clear e4 H4
            walk_at "no"
            refine g_mid (fun b H' => b = false ∧ H' = H3) ?_ ?_
            · walk_at "g"
              refine iteB (fun hc => ?_) (fun hc => ?_)
              · have hs : s = "fun" := by
                  have := of_decide_eq_true hc
                  injection this
                obtain ⟨z, rfl, z1⟩ := o3 hs
                obtain rfl := ry3.intI
                walk_at "g"
                refine ⟨?_, rfl⟩
                simp
                omega
              · exact ⟨rfl, rfl⟩
            · rintro _ H4 ⟨rfl, e4⟩
              rw [e4]
              clear e4 H4
              walk_at "no"
              exact ⟨_, _, rfl, c2.trans cT⟩
    · rintro σ H2 ⟨x3, x4, rfl, c2⟩
      have hS2 := (c1.trans c2).sqT hS
      have hpl2 := (c1.trans c2).up _ _ hpl0 (by simp)
      walk_at "g"
      refine g_mid (fun b H' => b = false ∧ H' = H2) ?_ ?_
      · walk_at "g"
        refine iteB (fun hc => ?_) (fun hc => ?_)
        · obtain ⟨f, qs, rfl⟩ : ∃ f ps, t = .p (.call f ps) := by
            cases t with
            | p p => cases p with
              | call f ps => exact ⟨f, ps, rfl⟩
              | _ => rw [wd_call (by trivial)] at hc; cases hc
            | d d => rw [wd_call (by trivial)] at hc; cases hc
          obtain ⟨v1, vs2, rfl, r1, rs2⟩ := rs.consI
          obtain ⟨v2, vs3, rfl, r2, rs3⟩ := rs2.consI
          obtain rfl := rs3.nilI
          obtain rfl := r1.intI
          obtain ⟨b, us, rfl, hb, rus⟩ := r2.tupI
          have hb2 := (c1.trans c2).sqT hb
          walk_at "g"
          rw [rus.len, encPs_len]
          refine ⟨f, qs.length, pl, ps, rfl, hpl2, own, ?_⟩
          walk_at "g"
          exact ⟨rfl, rfl⟩
        · exact ⟨rfl, rfl⟩
      · rintro _ H4 ⟨rfl, e4⟩
        rw [e4]
        walk_at "no"
        exact q H2 (c1.trans c2)
end
end K3
end

section
set_option maxRecDepth 100000
set_option maxHeartbeats 1000000
open Bq L2
/-- one step of a reading; what is left are side goals and places to think -/
local macro_rules | `(tactic| walk_at "g1") => `(tactic| first
  | with_reducible refine' g_seq ?_ | with_reducible refine' g_asg ?_ | with_reducible refine' g_drop ?_ | with_reducible refine' g_ret ?_ | with_reducible refine' g_ifS ?_ | with_reducible refine' g_asgG ?_
  | ((with_reducible refine' g_var ?hv ?_); (case hv => rfl))
  | with_reducible refine' g_c ?_ | with_reducible refine' g_op ?_ | with_reducible refine' g_un ?_ | with_reducible refine' g_I0 ?_ | with_reducible refine' g_U ?_
  | with_reducible refine' g_test ?_ | with_reducible refine' g_tB ?_ | with_reducible refine Exists.intro _ (And.intro rfl ?_) 
  | ((with_reducible refine' g_andP ?ha ?hb ?_); (case ha => intro R q; walk_at "g"; exact q); (case hb => intro R q; walk_at "g"; exact q))
  | ((with_reducible refine' g_orP ?ha ?hb ?_); (case ha => intro R q; walk_at "g"; exact q); (case hb => intro R q; walk_at "g"; exact q))
  | with_reducible refine' g_and ?_ | with_reducible refine' g_or ?_ | with_reducible refine' g_not ?_
  | with_reducible refine' g_andV ?_ | with_reducible refine' g_orV ?_ | with_reducible refine' g_notV ?_ | with_reducible refine' g_if ?_ | with_reducible refine' g_nil ?_ | with_reducible refine' g_cons ?_
  | with_reducible refine' g_tup ?_ | with_reducible refine' g_lst ?_ | with_reducible refine' g_CB ?_ | with_reducible refine' g_Fn ?_ | with_reducible refine' g_next ?_ | with_reducible refine' g_retN ?_
  | with_reducible refine' g_name ?_ | with_reducible refine' g_sub ?_
  | ((with_reducible refine' g_ixL ?hs ?he ?_); (case hs => walk_at "lk"); (case he => walk_at "at"))
  | ((with_reducible refine' g_ixT ?hs ?he ?_); (case hs => walk_at "lk"); (case he => walk_at "at"))
  | ((with_reducible refine' g_setL ?hs ?he ?_); (case hs => walk_at "hp"); (case he => rfl))
  | ((with_reducible refine' g_app ?hs ?hz ?_); (case hs => walk_at "hp"); (case hz => walk_at "sz"))
  | ((with_reducible refine' ⟨_, _, rfl, Or.inl ?hs, ?_⟩); (case hs => walk_at "lk"))
  | ((with_reducible refine' ⟨_, _, rfl, Or.inr ?hs, ?_⟩); (case hs => walk_at "lk"))
  | with_reducible refine' g_BM ?_ | with_reducible refine' g_BM0 ?_ | ((with_reducible refine' g_tyL ?hs ?_); (case hs => walk_at "lk"))
  | with_reducible refine' g_sl ?_ | with_reducible refine' g_noPart ?_ | with_reducible refine' g_part ?_
  | ((with_reducible refine' g_inT ?hs ?fx ?fs ?_); (case hs => walk_at "lk"); (case fx => rfl); (case fs => rfl))
  | with_reducible refine' g_pair ?_ | with_reducible refine' g_pair0 ?_ | with_reducible refine' g_disp ?_
  | with_reducible refine' g_for ?_ | with_reducible refine' g_tupC ?_ | with_reducible refine' g_lstC ?_ | ((with_reducible refine' g_lens ?_)) | with_reducible refine' g_dg ?_ | with_reducible refine' g_lc ?_ | with_reducible refine' g_rng1 ?_ | with_reducible refine' g_ilist ?_ | with_reducible refine' g_itup ?_
  | ((with_reducible refine' ⟨_, _, rfl, ?hd, ?_⟩); (case hd => walk_at "dg"))
  | ((with_reducible refine' g_eqNil ?hs ?hz ?_); (case hs => walk_at "lk"); (case hz => walk_at "lk"))
  | ((with_reducible refine' g_neNil ?hs ?hz ?_); (case hs => walk_at "lk"); (case hz => walk_at "lk"))
  | with_reducible refine Or.inl ⟨_, rfl, ?_⟩
  | with_reducible refine Or.inr ⟨_, rfl, ?_⟩
  | ((with_reducible refine' g_eq ?hs ?_); (case hs => rfl))
  | ((with_reducible refine' g_ne ?hs ?_); (case hs => rfl))
  | ((with_reducible refine' g_I ?hc ?_); (case hc => walk_at "ar")))
/-- arithmetic's side conditions -/
local macro_rules | `(tactic| walk_at "ar") => `(tactic| (first
  | (show (0 : Int) < _; first | omega | decide) | (show (0 : Int) < _ ∧ _; constructor <;> omega) | (show ¬ (_ : Int) = _; omega) | (show (_ : Int) ≠ _ ∧ _; constructor <;> omega)
  | (show (-(2 ^ 64) < _ ∧ _) ∨ _; (first | (left; constructor <;> omega) | (right; constructor <;> omega))) | (show (0 : Int) ≤ _ ∧ _ ∧ _; refine ⟨by omega, by omega, by decide⟩)))
/-- what stands at an index -/
local macro_rules | `(tactic| walk_at "at") => `(tactic| first | rfl | assumption)
/-- what stands at an address -/
local macro_rules | `(tactic| walk_at "hp") => `(tactic| first | assumption | exact upd_same | ((refine' Eq.trans (upd_ne ?hn) ?hm); (case hm => walk_at "hp"); (case hn => walk_at "ne")))
/-- two places are two -/
local macro_rules | `(tactic| walk_at "ne") => `(tactic| first
  | assumption | exact Ne.symm (by assumption)
  | ((refine' ne_of_none ?ha ?hb); (case hb => assumption); (case ha => walk_at "hp")) | ((refine' Ne.symm (ne_of_none ?ha ?hb)); (case hb => assumption); (case ha => walk_at "hp")))
/-- what a dict tells -/
local macro_rules | `(tactic| walk_at "dg") => `(tactic| first | assumption)
/-- a length -/
local macro_rules | `(tactic| walk_at "sz") => `(tactic| first | (show _ ≤ sizeLine; decide) | (show _ < sizeLine; decide) | assumption | exact szlt (by simp) | exact szle (by simp))
/-- a list or tuple that stands -/
local macro_rules | `(tactic| walk_at "lk") => `(tactic| first | assumption | exact SqL.of (by assumption) | exact SqT.of (by assumption) | exact SqL.of upd_same | exact SqT.of upd_same | (refine' FzL.sq ?hm; (case hm => walk_at "fz")))
/-- a list that nobody writes -/
local macro_rules | `(tactic| walk_at "fz") => `(tactic| first | assumption | ((refine' FzL.uw ?hm ?hx); (case hx => walk_at "hp"); (case hm => walk_at "fz")) | ((refine' FzL.nw ?hm ?hx); (case hx => assumption); (case hm => walk_at "fz")))
/-- as far as it goes by itself -/
local macro_rules | `(tactic| walk_at "g") => `(tactic| repeat walk_at "g1")
/-- the body's reading, its places in short -/
local macro_rules | `(tactic| walk_at "go") => `(tactic| ((try dsimp only [cxOf, Cx.nox, Cx.wish]); walk_at "g"))
namespace K3
open PySem PySem.Spec PyProof.Rows L2 Bq
section
variable {P : Program} {w : World} {K : PySem.W.Frag} {mg : Str → Option Value} {base : Heap}
/-- further steps: dicts written, tuples taken apart -/
local macro_rules | `(tactic| walk_at "g1") => `(tactic| first
  | with_reducible refine' g_sdput ?_
  | ((with_reducible refine' g_gtup ?hs ?hl ?_); (case hs => walk_at "lk"); (case hl => rfl))
  | with_reducible refine' g_gcons ?_
  | with_reducible refine' g_gnil ?_
  | with_reducible refine' And.intro (Eq.refl V.non) ?_
  | with_reducible refine' g_isN ?_
  | ((with_reducible refine' g_chainR ?ha ?hb ?hc ?_); (case ha => intro R q; walk_at "g"; exact q); (case hb => intro R q; walk_at "g"; exact q); (case hc => intro R q; walk_at "g"; exact q))
  | with_reducible refine' g_notN ?_)
/-- what the law's dict tells -/
local macro_rules | `(tactic| walk_at "dg") => `(tactic| first
  | assumption
  | exact LH.gfuns (by assumption)
  | exact LH.gsaid (by assumption)
  | exact LH.gcells (by assumption)
  | exact LH.gfuel (by assumption)
  | exact LH.gend (by assumption)
  | exact LH.gcalls (by assumption)
  | exact LH.gnames (by assumption)
  | exact LH.gwaits (by assumption)
  | exact LH.gworth (by assumption)
  | exact LH.glook (by assumption))
/-- a test that fails, that holds, by itself -/
local macro_rules | `(tactic| walk_at "no") => `(tactic| ((refine tkF rfl ?_); walk_at "g"))
local macro_rules | `(tactic| walk_at "yes") => `(tactic| ((refine tkT rfl ?_); walk_at "g"))
/-! ### what stands within a thing -/
def IsEnt (K : PySem.W.Frag) (H : Hp) (v : V) (e : Th × Int) : Prop := ∃ p u, v = .ref p ∧ SqT K H p [u, .int e.2] ∧ Rep K H u (encT e.1)
theorem IsEnt.kt {H H' : Hp} (k : Kt K H H') {v : V} {e : Th × Int} : IsEnt K H v e → IsEnt K H' v e
  | ⟨p, u, a, b, c⟩ => ⟨p, u, a, k.t _ _ b, c.kt k⟩
inductive Ents (K : PySem.W.Frag) (H : Hp) : List V → List (Th × Int) → Prop where
  | nil : Ents K H [] []
  | cons {v e vs es} (h : IsEnt K H v e) (r : Ents K H vs es) : Ents K H (v :: vs) (e :: es)
theorem Ents.kt {H H' : Hp} (k : Kt K H H') {vs : List V} {es : List (Th × Int)} (h : Ents K H vs es) : Ents K H' vs es := by
  induction h with
  | nil => exact .nil
  | cons h _ ih => exact .cons (h.kt k) ih
theorem Ents.len {H : Hp} {vs : List V} {es : List (Th × Int)} (h : Ents K H vs es) : vs.length = es.length := by
  induction h with
  | nil => rfl
  | cons _ _ ih => exact congrArg Nat.succ ih
theorem Ents.append {H : Hp} {vs us : List V} {es fs : List (Th × Int)} (h : Ents K H vs es) (g : Ents K H us fs) : Ents K H (vs ++ us) (es ++ fs) := by
  induction h with
  | nil => exact g
  | cons h _ ih => exact .cons h ih
theorem Ents.reverse {H : Hp} {vs : List V} {es : List (Th × Int)} (h : Ents K H vs es) : Ents K H vs.reverse es.reverse := by
  induction h with
  | nil => exact .nil
  | cons h _ ih =>
    rw [List.reverse_cons, List.reverse_cons]
    exact ih.append (.cons h .nil)
theorem Ents.snoc {H : Hp} {vs : List V} {e : Th × Int} {es : List (Th × Int)} (h : Ents K H vs (es ++ [e])) : ∃ us v, vs = us ++ [v] ∧ Ents K H us es ∧ IsEnt K H v e := by
  have h2 := h.reverse
  rw [List.reverse_append] at h2
  generalize e2 : vs.reverse = ws at h2
  cases h2 with
  | cons hv hr =>
    rename_i v ws'
    refine ⟨ws'.reverse, v, ?_, ?_, hv⟩
    · rw [← List.reverse_reverse vs, e2, List.reverse_cons]
    · have := hr.reverse
      simpa using this
theorem reps_ps {H : Hp} : ∀ {us : List V} {ps : List Pt} {i : Nat} {x : V}, Reps K H us (encPs ps) → us[i]? = some x → ∃ p, ps[i]? = some p ∧ Rep K H x (encP p)
  | us, [], i, x, r, h => by rw [r.nilI] at h; simp at h
  | us, p :: ps, i, x, r, h => by
    obtain ⟨v, vs, rfl, r0, r1⟩ := r.consI
    cases i with
    | zero => simp at h; subst h; exact ⟨p, rfl, r0⟩
    | succ i =>
      obtain ⟨p', h1, h2⟩ := reps_ps r1 (by simpa using h)
      exact ⟨p', by simpa using h1, h2⟩
theorem reps_ds {H : Hp} : ∀ {us : List V} {ps : List Dd} {i : Nat} {x : V}, Reps K H us (encB ps) → us[i]? = some x → ∃ p, ps[i]? = some p ∧ Rep K H x (encDd p)
  | us, [], i, x, r, h => by rw [r.nilI] at h; simp at h
  | us, p :: ps, i, x, r, h => by
    obtain ⟨v, vs, rfl, r0, r1⟩ := r.consI
    cases i with
    | zero => simp at h; subst h; exact ⟨p, rfl, r0⟩
    | succ i =>
      obtain ⟨p', h1, h2⟩ := reps_ds r1 (by simpa using h)
      exact ⟨p', by simpa using h1, h2⟩
def within (t : Th) (ar : Int) : List (Th × Int) := (innerT t).map (fun p => (Th.p p, (-1 : Int))) ++ (bodT t).flatten.map fun d => (Th.d d, ar + 1)
def spWithin (K : PySem.W.Frag) : Sp := fun vs H Q _ => ∃ v t, ∃ ar : Int, vs = [v, .int ar] ∧ Rep K H v (encT t) ∧ (within t ar).length ≤ 900 ∧ ∀ H' l us, Ch K [] H H' → H l = none → H' l = some (.lst us) → Ents K H' us (within t ar).reverse → Q (.ref l) H'
theorem fn_within (C : Cn w K mg base) : Fn P w K mg base CX0 3 "things_within" ["thing", "around"] (spWithin K) := C.f_things_within fun fd F => by
  have F_parts_of : Fn P w K mg base CX0 2 "parts_of" ["thing"] (spInner K) := fn_parts C
  have F_bodies_of : Fn P w K mg base CX0 2 "bodies_of" ["thing"] (spBodies K) := fn_bodies C
  refine F.ok (CX := CX0) sc_things_within (fun vs H Q E h => ?_) (fun cdv A outer s H vs Q E hr h => ?_)
  · obtain ⟨v, t, ar, rfl, _⟩ := h
    rfl
  · obtain ⟨v, t, ar, rfl, rep, hz, q⟩ := h
    refine ⟨_, PSs.nox (pss_cons (ps_setLc (i := 2) (own := [("part", 4)]) (g := gName 4) (tt := tYes) rfl sc_things_within.nd rfl rfl (sw_true rfl rfl rfl (by decide +kernel)) (pi_list (pe_fn F_parts_of (rmm hr) (by rfl) pass0 (pa_cons (pv 0) pa_nil))) (blkOk_by (own := [("part", 4)]) (N := ["thing", "around", "found", "body", "part", "deed"]) (sc := defScope s_things_within) (by decide +kernel)) (fun _ _ _ _ _ => pg_name (i := 4) sc_things_within.nd rfl (Or.inl rfl)) (fun _ _ _ _ _ => pts_nil) (fun _ _ _ _ _ => (pe_tupCK K (pa_cons (pv 4) (pa_cons (pe_iglob (by rfl) C.i_A_PART) pa_nil)))))
      (pss_cons (ps_for PassesOwn.never rfl (pi_list (pe_fn F_bodies_of (rmm hr) (by rfl) pass0 (pa_cons (pv 0) pa_nil))) (pg_name (i := 3) sc_things_within.nd rfl (Or.inl rfl)) (pss_one (ps_expr (pe_bm PySem.F.plainAttrs_list PySem.F.slot_list_extend PySem.F.type_list_extend mt_extend (pv 2) (pa_cons (pe_lc (own := [("deed", 5)]) (g := gName 5) (tt := tYes) rfl sc_things_within.nd (pi_tup (pv 3)) (blkOk_by (own := [("deed", 5)]) (N := ["thing", "around", "found", "body", "part", "deed"]) (sc := defScope s_things_within) (by decide +kernel)) (fun _ _ _ _ _ => pg_name (i := 5) sc_things_within.nd rfl (Or.inl rfl)) (fun _ _ _ _ _ => pts_nil) (fun _ _ _ _ _ => (pe_tupCK K (pa_cons (pv 5) (pa_cons (pe_op op_add (pv 1) pe_int) pa_nil))))) pa_nil)))))
      (pss_cons (ps_expr (pe_bm0 PySem.F.plainAttrs_list PySem.F.slot_list_reverse PySem.F.type_list_reverse mt_reverse (pv 2)))
      (pss_one (ps_ret (pv 2)))))), ?_⟩
    walk_at "go"
    refine ⟨v, t, rfl, rep, fun H1 l1 us1 c1 n1 e1 r1 => ?_⟩
    walk_at "g"
    simp only [within, List.length_append, List.length_map] at hz
    have lu1 : us1.length = (innerT t).length := by rw [r1.len, encPs_len]
    refine ⟨⟨_, SqL.of e1⟩, fun D nD => ?_⟩
    have nl1 : l1 ∉ [D] := by
      have := ne_of_none e1 nD
      simpa using this
    refine lcL1 (xs := us1) (fun i H' => Ch K [] H1 H' ∧ ∃ vs, H' D = some (.lst vs) ∧ Ents K H' vs (((innerT t).take i).map fun p => (Th.p p, (-1 : Int)))) ⟨Ch.new nD, [], upd_same, by
      rw [List.take_zero]
      exact .nil⟩ (fun i H' _ p => SqL.of (p.1.up _ _ e1 (by simp))) ?_ ?_
    · rintro i x H2 hx ⟨c2, vs, eD, es⟩
      obtain ⟨p, hp, rp⟩ := reps_ps r1 hx
      walk_at "g"
      refine ⟨szle (by simp), fun tp H3 _ e3 c3 => ?_⟩
      have eD3 := c3.up _ _ eD (by simp)
      have c4 : Ch K [] H1 (upd H3 D (.lst (vs ++ [V.ref tp]))) := Ch.wrN (c2.trans c3) nD eD3 rfl
      have k4 : Kt K H3 (upd H3 D (.lst (vs ++ [V.ref tp]))) := (Ch.wrL (S := [D]) eD3 (by simp)).kt
      have l1 := es.len
      rw [List.length_map, List.length_take] at l1
      refine ⟨vs, eD3, szlt (by omega), c4, _, upd_same, ?_⟩
      rw [List.take_add_one, hp, List.map_append]
      exact (es.kt (c3.kt.trans k4)).append (.cons ⟨tp, x, rfl, k4.t _ _ (SqT.of e3), rp.kt c4.kt⟩ .nil)
    · rintro H2 ⟨c2, vs, eD, es⟩
      rw [List.take_of_length_le (by omega)] at es
      walk_at "g"
      refine ⟨v, t, rfl, rep.kt (c1.trans c2).kt, fun H3 l3 us3 c3 n3 e3 r3 => ?_⟩
      have eD3 := c3.up _ _ eD (by simp)
      have nDl : D ≠ l3 := ne_of_none eD n3
      have es3 := es.kt c3.kt
      have nD0 : H D = none := c1.free nD (by simp)
      have c03 : Ch K [] H H3 := c1.trans (c2.trans c3)
      clear es eD c2 e1 r1
      walk_at "g"
      have lb : us3.length = (bodT t).length := by rw [r3.len, List.length_map]
      refine ⟨⟨_, SqL.of e3⟩, for_list (K := K) (a := l3) (xs := us3) (fun i σ H' => ∃ y, σ = [some v, some (.int ar), some (.ref D), y, none, none] ∧ Ch K [D] H3 H' ∧ Ch K [] H H' ∧ ∃ vs, H' D = some (.lst vs) ∧ Ents K H' vs ((innerT t).map (fun p => (Th.p p, (-1 : Int))) ++ ((bodT t).take i).flatten.map fun d => (Th.d d, ar + 1)))
        ⟨none, rfl, Ch.refl, c03, _, eD3, by simpa using es3⟩ (fun i σ H' _ ⟨_, _, c, _⟩ => SqL.of (c.up _ _ e3 (by simpa using nDl.symm))) ?_ ?_⟩
      · rintro i y σ H4 hi ⟨y0, rfl, c4, c04, vs, eD4, es4⟩
        obtain ⟨tb, htb, rb⟩ := r3.get hi
        rw [List.getElem?_map] at htb
        cases eb : (bodT t)[i]? with
        | none => rw [eb] at htb; cases htb
        | some b =>
          rw [eb] at htb
          obtain rfl : T.tup (encB b) = tb := Option.some.inj htb
          have rb4 := rb.kt c4.kt
          obtain ⟨ba, bvs, rfl, hba, rbs⟩ := rb4.tupI
          have lbv : bvs.length = b.length := by rw [rbs.len, encB_len]
          have hlen : ((bodT t).take i).flatten.length + b.length ≤ (bodT t).flatten.length := by
            have h1 : (bodT t).take (i + 1) = (bodT t).take i ++ [b] := by rw [List.take_add_one, eb]; rfl
            have h2 : ((bodT t).take (i + 1)).flatten.length ≤ (bodT t).flatten.length := by
              conv => rhs; rw [← List.take_append_drop (i + 1) (bodT t)]
              rw [List.flatten_append, List.length_append]
              omega
            rw [h1, List.flatten_append, List.length_append] at h2
            simpa using h2
          have lvs := es4.len
          rw [List.length_append, List.length_map, List.length_map] at lvs
          walk_at "g"
          refine ⟨⟨_, hba⟩, fun D2 nD2 => ?_⟩
          have nDD : D ∉ [D2] := by
            have := ne_of_none eD4 nD2
            simpa using this
          refine lcT1 (xs := bvs) (fun j H' => Ch K [] H4 H' ∧ ∃ ws, H' D2 = some (.lst ws) ∧ Ents K H' ws ((b.take j).map fun d => (Th.d d, ar + 1))) ⟨Ch.new nD2, [], upd_same, by
            rw [List.take_zero]
            exact .nil⟩ (fun j H' _ p => p.1.sqT hba) ?_ ?_
          · rintro j x H5 hx ⟨c5, ws, eD5, es5⟩
            obtain ⟨d, hd, rd⟩ := reps_ds rbs hx
            walk_at "g"
            refine ⟨szle (by simp), fun tp H6 _ e6 c6 => ?_⟩
            have eD6 := c6.up _ _ eD5 (by simp)
            have c7 : Ch K [] H4 (upd H6 D2 (.lst (ws ++ [V.ref tp]))) := Ch.wrN (c5.trans c6) nD2 eD6 rfl
            have k7 : Kt K H6 (upd H6 D2 (.lst (ws ++ [V.ref tp]))) := (Ch.wrL (S := [D2]) eD6 (by simp)).kt
            have l1 := es5.len
            rw [List.length_map, List.length_take] at l1
            refine ⟨ws, eD6, szlt (by omega), c7, _, upd_same, ?_⟩
            rw [List.take_add_one, hd, List.map_append]
            exact (es5.kt (c6.kt.trans k7)).append (.cons ⟨tp, x, rfl, k7.t _ _ (SqT.of e6), rd.kt c7.kt⟩ .nil)
          · rintro H5 ⟨c5, ws, eD5, es5⟩
            rw [List.take_of_length_le (by omega)] at es5
            have eDD := c5.up _ _ eD4 (by simp)
            have lws := es5.len
            rw [List.length_map] at lws
            walk_at "g"
            refine ⟨D, D2, vs, ws, rfl, rfl, eDD, eD5, szle (by omega), ?_⟩
            have c8 : Ch K [D] H5 (upd H5 D (.lst (vs ++ ws))) := Ch.wrL eDD (by simp)
            have c08 : Ch K [] H (upd H5 D (.lst (vs ++ ws))) := Ch.wrN (c04.trans c5) nD0 eDD rfl
            walk_at "g"
            refine ⟨(c4.trans (c5.mono (by simp))).trans c8, c08, _, upd_same, ?_⟩
            have h1 : (bodT t).take (i + 1) = (bodT t).take i ++ [b] := by rw [List.take_add_one, eb]; rfl
            rw [h1, List.flatten_append, List.map_append, ← List.append_assoc]
            simp only [List.flatten_cons, List.flatten_nil, List.append_nil]
            exact (es4.kt (c5.kt.trans c8.kt)).append (es5.kt c8.kt)
      · rintro σ H4 ⟨y0, rfl, c4, c04, vs, eD4, es4⟩
        rw [List.take_of_length_le (by omega)] at es4
        walk_at "g"
        refine ⟨D, vs, rfl, rfl, eD4, ?_⟩
        have c5 : Ch K [D] H4 (upd H4 D (.lst vs.reverse)) := Ch.wrL eD4 (by simp)
        have c05 : Ch K [] H (upd H4 D (.lst vs.reverse)) := Ch.wrN c04 nD0 eD4 rfl
        walk_at "g"
        exact q _ D vs.reverse c05 nD0 upd_same ((es4.kt c5.kt).reverse)
end
end K3
end

section
set_option maxRecDepth 100000
set_option maxHeartbeats 1000000
open Bq L2
/-- one step of a reading; what is left are side goals and places to think -/
local macro_rules | `(tactic| walk_at "g1") => `(tactic| first
  | with_reducible refine' g_seq ?_ | with_reducible refine' g_asg ?_ | with_reducible refine' g_drop ?_ | with_reducible refine' g_ret ?_ | with_reducible refine' g_ifS ?_ | with_reducible refine' g_asgG ?_
  | ((with_reducible refine' g_var ?hv ?_); (case hv => rfl))
  | with_reducible refine' g_c ?_ | with_reducible refine' g_op ?_ | with_reducible refine' g_un ?_ | with_reducible refine' g_I0 ?_ | with_reducible refine' g_U ?_
  | with_reducible refine' g_test ?_ | with_reducible refine' g_tB ?_ | with_reducible refine Exists.intro _ (And.intro rfl ?_) 
  | ((with_reducible refine' g_andP ?ha ?hb ?_); (case ha => intro R q; walk_at "g"; exact q); (case hb => intro R q; walk_at "g"; exact q))
  | ((with_reducible refine' g_orP ?ha ?hb ?_); (case ha => intro R q; walk_at "g"; exact q); (case hb => intro R q; walk_at "g"; exact q))
  | with_reducible refine' g_and ?_ | with_reducible refine' g_or ?_ | with_reducible refine' g_not ?_
  | with_reducible refine' g_andV ?_ | with_reducible refine' g_orV ?_ | with_reducible refine' g_notV ?_ | with_reducible refine' g_if ?_ | with_reducible refine' g_nil ?_ | with_reducible refine' g_cons ?_
  | with_reducible refine' g_tup ?_ | with_reducible refine' g_lst ?_ | with_reducible refine' g_CB ?_ | with_reducible refine' g_Fn ?_ | with_reducible refine' g_next ?_ | with_reducible refine' g_retN ?_
  | with_reducible refine' g_name ?_ | with_reducible refine' g_sub ?_
  | ((with_reducible refine' g_ixL ?hs ?he ?_); (case hs => walk_at "lk"); (case he => walk_at "at"))
  | ((with_reducible refine' g_ixT ?hs ?he ?_); (case hs => walk_at "lk"); (case he => walk_at "at"))
  | ((with_reducible refine' g_setL ?hs ?he ?_); (case hs => walk_at "hp"); (case he => rfl))
  | ((with_reducible refine' g_app ?hs ?hz ?_); (case hs => walk_at "hp"); (case hz => walk_at "sz"))
  | ((with_reducible refine' ⟨_, _, rfl, Or.inl ?hs, ?_⟩); (case hs => walk_at "lk"))
  | ((with_reducible refine' ⟨_, _, rfl, Or.inr ?hs, ?_⟩); (case hs => walk_at "lk"))
  | with_reducible refine' g_BM ?_ | with_reducible refine' g_BM0 ?_ | ((with_reducible refine' g_tyL ?hs ?_); (case hs => walk_at "lk"))
  | with_reducible refine' g_sl ?_ | with_reducible refine' g_noPart ?_ | with_reducible refine' g_part ?_
  | ((with_reducible refine' g_inT ?hs ?fx ?fs ?_); (case hs => walk_at "lk"); (case fx => rfl); (case fs => rfl))
  | with_reducible refine' g_pair ?_ | with_reducible refine' g_pair0 ?_ | with_reducible refine' g_disp ?_
  | with_reducible refine' g_for ?_ | with_reducible refine' g_tupC ?_ | with_reducible refine' g_lstC ?_ | ((with_reducible refine' g_lens ?_)) | with_reducible refine' g_dg ?_ | with_reducible refine' g_lc ?_ | with_reducible refine' g_rng1 ?_ | with_reducible refine' g_ilist ?_ | with_reducible refine' g_itup ?_
  | ((with_reducible refine' ⟨_, _, rfl, ?hd, ?_⟩); (case hd => walk_at "dg"))
  | ((with_reducible refine' g_eqNil ?hs ?hz ?_); (case hs => walk_at "lk"); (case hz => walk_at "lk"))
  | ((with_reducible refine' g_neNil ?hs ?hz ?_); (case hs => walk_at "lk"); (case hz => walk_at "lk"))
  | with_reducible refine Or.inl ⟨_, rfl, ?_⟩
  | with_reducible refine Or.inr ⟨_, rfl, ?_⟩
  | ((with_reducible refine' g_eq ?hs ?_); (case hs => rfl))
  | ((with_reducible refine' g_ne ?hs ?_); (case hs => rfl))
  | ((with_reducible refine' g_I ?hc ?_); (case hc => walk_at "ar")))
/-- arithmetic's side conditions -/
local macro_rules | `(tactic| walk_at "ar") => `(tactic| (first
  | (show (0 : Int) < _; first | omega | decide) | (show (0 : Int) < _ ∧ _; constructor <;> omega) | (show ¬ (_ : Int) = _; omega) | (show (_ : Int) ≠ _ ∧ _; constructor <;> omega)
  | (show (-(2 ^ 64) < _ ∧ _) ∨ _; (first | (left; constructor <;> omega) | (right; constructor <;> omega))) | (show (0 : Int) ≤ _ ∧ _ ∧ _; refine ⟨by omega, by omega, by decide⟩)))
/-- what stands at an index -/
local macro_rules | `(tactic| walk_at "at") => `(tactic| first | rfl | assumption)
/-- what stands at an address -/
local macro_rules | `(tactic| walk_at "hp") => `(tactic| first | assumption | exact upd_same | ((refine' Eq.trans (upd_ne ?hn) ?hm); (case hm => walk_at "hp"); (case hn => walk_at "ne")))
/-- two places are two -/
local macro_rules | `(tactic| walk_at "ne") => `(tactic| first
  | assumption | exact Ne.symm (by assumption)
  | ((refine' ne_of_none ?ha ?hb); (case hb => assumption); (case ha => walk_at "hp")) | ((refine' Ne.symm (ne_of_none ?ha ?hb)); (case hb => assumption); (case ha => walk_at "hp")))
/-- what a dict tells -/
local macro_rules | `(tactic| walk_at "dg") => `(tactic| first | assumption)
/-- a length -/
local macro_rules | `(tactic| walk_at "sz") => `(tactic| first | (show _ ≤ sizeLine; decide) | (show _ < sizeLine; decide) | assumption | exact szlt (by simp) | exact szle (by simp))
/-- a list or tuple that stands -/
local macro_rules | `(tactic| walk_at "lk") => `(tactic| first | assumption | exact SqL.of (by assumption) | exact SqT.of (by assumption) | exact SqL.of upd_same | exact SqT.of upd_same | (refine' FzL.sq ?hm; (case hm => walk_at "fz")))
/-- a list that nobody writes -/
local macro_rules | `(tactic| walk_at "fz") => `(tactic| first | assumption | ((refine' FzL.uw ?hm ?hx); (case hx => walk_at "hp"); (case hm => walk_at "fz")) | ((refine' FzL.nw ?hm ?hx); (case hx => assumption); (case hm => walk_at "fz")))
/-- as far as it goes by itself -/
local macro_rules | `(tactic| walk_at "g") => `(tactic| repeat walk_at "g1")
/-- the body's reading, its places in short -/
local macro_rules | `(tactic| walk_at "go") => `(tactic| ((try dsimp only [cxOf, Cx.nox, Cx.wish]); walk_at "g"))
namespace K3
open PySem PySem.Spec PyProof.Rows L2 Bq
section
variable {P : Program} {w : World} {K : PySem.W.Frag} {mg : Str → Option Value} {base : Heap}
/-- further steps: dicts written, tuples taken apart -/
local macro_rules | `(tactic| walk_at "g1") => `(tactic| first
  | with_reducible refine' g_sdput ?_
  | ((with_reducible refine' g_gtup ?hs ?hl ?_); (case hs => walk_at "lk"); (case hl => rfl))
  | with_reducible refine' g_gcons ?_
  | with_reducible refine' g_gnil ?_
  | with_reducible refine' And.intro (Eq.refl V.non) ?_
  | with_reducible refine' g_isN ?_
  | ((with_reducible refine' g_chainR ?ha ?hb ?hc ?_); (case ha => intro R q; walk_at "g"; exact q); (case hb => intro R q; walk_at "g"; exact q); (case hc => intro R q; walk_at "g"; exact q))
  | with_reducible refine' g_notN ?_)
/-- what the law's dict tells -/
local macro_rules | `(tactic| walk_at "dg") => `(tactic| first
  | assumption
  | exact LH.gfuns (by assumption)
  | exact LH.gsaid (by assumption)
  | exact LH.gcells (by assumption)
  | exact LH.gfuel (by assumption)
  | exact LH.gend (by assumption)
  | exact LH.gcalls (by assumption)
  | exact LH.gnames (by assumption)
  | exact LH.gwaits (by assumption)
  | exact LH.gworth (by assumption)
  | exact LH.glook (by assumption))
/-- a test that fails, that holds, by itself -/
local macro_rules | `(tactic| walk_at "no") => `(tactic| ((refine tkF rfl ?_); walk_at "g"))
local macro_rules | `(tactic| walk_at "yes") => `(tactic| ((refine tkT rfl ?_); walk_at "g"))
/-! ### a body looked at -/
theorem lcR {a : Addr} {xs : List V} {k : Nat} {te : TE} {σ : L2.St} {H1 : Hp} {D : Addr} {Qd : Hp → Prop} (Pv : Nat → Hp → Prop) (h0 : Pv 0 (upd H1 D (.lst []))) (hl : ∀ i H, Pv i H → SqT K H a xs)
    (hs : ∀ (i : Nat) x H, xs[xs.length - 1 - i]? = some x → i < xs.length → Pv i H → te ((wipe σ [k]).set k (some x)) H fun y H4 => ∃ acc, H4 D = some (.lst acc) ∧ acc.length < sizeLine ∧ Pv (i + 1) (upd H4 D (.lst (acc ++ [y])))) (hd : ∀ H, Pv xs.length H → Qd H) :
    ∃ W : Nat → Nat → Hp → Prop, (∃ m, W 0 m (upd H1 D (.lst []))) ∧ ∀ i m H, W i m H →
      ((RT.ItvT K a xs.length).stop i H ∧ Qd H) ∨ ((RT.ItvT K a xs.length).go i H ∧ ∃ Nx : Hp → Prop, (∀ H', Nx H' → ∃ m', m' < m ∧ W (i + 1) m' H') ∧ ∀ x H', (RT.ItvT K a xs.length).yld i H x H' → gName k x (wipe σ [k]) H' fun σ2 H2 => wipe σ2 [k] = wipe σ [k] ∧ tYes σ2 H2 fun b H3 =>
        if b = true then te σ2 H3 fun y H4 => ∃ acc, H4 D = some (.lst acc) ∧ acc.length < sizeLine ∧ Nx (upd H4 D (.lst (acc ++ [y]))) else Nx H3) := by
  refine ⟨fun i m H => m = xs.length - i ∧ i ≤ xs.length ∧ Pv i H, ⟨xs.length, rfl, Nat.zero_le _, h0⟩, ?_⟩
  rintro i m H ⟨rfl, hi, p⟩
  by_cases hlt : i < xs.length
  · have hj : xs.length - 1 - i < xs.length := by omega
    have hx : xs[xs.length - 1 - i]? = some xs[xs.length - 1 - i] := List.getElem?_eq_getElem hj
    refine .inr ⟨⟨hlt, xs, _, hl i H p, hx⟩, Pv (i + 1), fun H' p' => ⟨xs.length - (i + 1), by omega, rfl, hlt, p'⟩, fun v H' y => ?_⟩
    obtain ⟨e, hy⟩ := y
    subst e
    refine ⟨wipe1, ?_⟩
    simp only [tYes, ↓reduceIte]
    exact hs i v _ (hy xs (hl i _ p)) hlt p
  · have e : i = xs.length := by omega
    subst e
    exact .inl ⟨Nat.le_refl _, hd H p⟩
def stk (pts : List Pt) (ds : List (Dd × Nat)) : List (Th × Int) := pts.map (fun p => (Th.p p, (-1 : Int))) ++ ds.map fun x => (Th.d x.1, (x.2 : Int))
def szDs : List (Dd × Nat) → Nat
  | [] => 0
  | x :: r => szD x.1 + szDs r
theorem szDs_app : ∀ a b : List (Dd × Nat), szDs (a ++ b) = szDs a + szDs b
  | [], b => by simp [szDs]
  | x :: r, b => by
    have := szDs_app r b
    simp only [List.cons_append, szDs, this]
    omega
theorem szPs_app : ∀ a b : List Pt, szPs (a ++ b) = szPs a + szPs b
  | [], b => by simp [szPs]
  | x :: r, b => by
    have := szPs_app r b
    simp only [List.cons_append, szPs, this]
    omega
theorem szDs_map (n : Nat) : ∀ b : List Dd, szDs (b.map fun d => (d, n)) = szB b
  | [] => rfl
  | d :: r => by
    have := szDs_map n r
    simp only [List.map_cons, szDs, szB, this]
theorem sz_inner (p : Pt) : szPs (innerP p) + 1 = szP p := by
  have := remP_inner p
  simp only [remP, List.drop_zero] at this
  omega
theorem szB_app : ∀ a b : List Dd, szB (a ++ b) = szB a + szB b
  | [], b => by simp [szB]
  | x :: r, b => by
    have := szB_app r b
    simp only [List.cons_append, szB, this]
    omega
theorem sz_innerD (d : Dd) : szPs (innerD d) + 1 + szB (bodT (.d d)).flatten = szD d := by
  cases d <;> simp [innerD, bodT, szPs, szB, szD, szB_app] <;> omega
theorem sz_inner40 {nm m : Nat} {ps : List Nat} {d : Dd} (w : wfD nm ps m d) : szPs (innerD d) ≤ 40 := by
  cases d with
  | set i p => have := w.2.2; simp [innerD, szPs]; omega
  | put c p => have := w.2.2; simp [innerD, szPs]; omega
  | say p => have := w.2; simp [innerD, szPs]; omega
  | ite p a b => have := w.2.1; simp [innerD, szPs]; omega
  | whl p b => have := w.2.1; simp [innerD, szPs]; omega
  | ret p => have := w.2; simp [innerD, szPs]; omega
  | dop p => have := w.2; simp [innerD, szPs]; omega
theorem wfPs_mem {nm : Nat} {ps : List Nat} : ∀ {l : List Pt}, wfPs nm ps l ↔ ∀ p ∈ l, wfP nm ps p
  | [] => by simp [wfPs]
  | p :: r => by simp [wfPs, wfPs_mem (l := r)]
theorem wfP_all {nm : Nat} {ps : List Nat} {p : Pt} (w : wfP nm ps p) : ∀ q ∈ innerP p, wfP nm ps q := by
  intro q hq
  obtain ⟨n, hn⟩ := List.mem_iff_getElem?.mp hq
  exact wfP_inner w hn
theorem wfD_all {nm m : Nat} {ps : List Nat} {d : Dd} (w : wfD nm ps m d) : ∀ q ∈ innerD d, wfP nm ps q := by
  intro q hq
  obtain ⟨n, hn⟩ := List.mem_iff_getElem?.mp hq
  exact wfD_inner w hn
theorem wfBs_mem {nm : Nat} {ps : List Nat} {m : Nat} {d : Dd} : ∀ {b : List Dd}, wfBs nm ps m b → d ∈ b → ∃ k, m = k + 1 ∧ wfD nm ps k d
  | [], _, h => by simp at h
  | x :: r, w, h => by
    cases m with
    | zero => exact w.elim
    | succ k =>
      rcases List.mem_cons.mp h with rfl | h
      · exact ⟨k, rfl, w.1⟩
      · exact wfBs_mem (b := r) w.2 h
theorem wf_bodies {nm m : Nat} {ps : List Nat} {d : Dd} (w : wfD nm ps m d) : ∀ x ∈ (bodT (.d d)).flatten, ∃ k, m = k + 1 ∧ wfD nm ps k x := by
  intro x hx
  cases d with
  | ite p a b =>
    simp only [bodT, List.flatten_cons, List.flatten_nil, List.append_nil, List.mem_append] at hx
    rcases hx with h | h
    · exact wfBs_mem w.2.2.1 h
    · exact wfBs_mem w.2.2.2 h
  | whl p b =>
    simp only [bodT, List.flatten_cons, List.flatten_nil, List.append_nil] at hx
    exact wfBs_mem w.2.2 hx
  | _ => simp [bodT] at hx
theorem own_p {nm : Nat} {ps : List Nat} {p : Pt} (w : wfP nm ps p) : ownOk nm ps (.p p) := by
  cases p with
  | num n => exact w
  | name n => exact w
  | call f qs => exact w.1
  | _ => trivial
theorem own_d {nm m : Nat} {ps : List Nat} {d : Dd} (w : wfD nm ps m d) : ownOk nm ps (.d d) := by
  cases d with
  | set i p => exact w.1
  | _ => trivial
theorem szDs_len : ∀ ds : List (Dd × Nat), ds.length ≤ szDs ds
  | [] => Nat.zero_le _
  | x :: r => by
    have := szDs_len r
    have h : 1 ≤ szD x.1 := by cases x.1 <;> simp [szD] <;> omega
    simp only [List.length_cons, szDs]
    omega
theorem szPs_len : ∀ ps : List Pt, ps.length ≤ szPs ps
  | [] => Nat.zero_le _
  | x :: r => by
    have := szPs_len r
    have h : 1 ≤ szP x := by cases x <;> simp [szP] <;> omega
    simp only [List.length_cons, szPs]
    omega
theorem szB_len' : ∀ ps : List Dd, ps.length ≤ szB ps
  | [] => Nat.zero_le _
  | x :: r => by
    have := szB_len' r
    have h : 1 ≤ szD x := by cases x <;> simp [szD] <;> omega
    simp only [List.length_cons, szB]
    omega
def spBodyFlaw (K : PySem.W.Frag) : Sp := fun vs H Q _ => ∃ v b nm pl, ∃ ps : List Nat, vs = [v, .int (nm : Nat), .ref pl] ∧ Rep K H v (.tup (encB b)) ∧ H pl = some (.lst (ps.map fun n => V.int (n : Nat))) ∧ wfBs nm ps 8 b ∧ szB b ≤ 190 ∧ ∀ H', Ch K [] H H' → Q .non H'
/-- the state of the look: parts to do first, then deeds -/
structure BI (K : PySem.W.Frag) (H : Hp) (nm : Nat) (ps : List Nat) (D : Addr) (pts : List Pt) (ds : List (Dd × Nat)) (at_ wide : Nat) : Prop where
  e : ∃ vs, H D = some (.lst vs) ∧ Ents K H vs (stk pts ds).reverse
  sz : at_ + szPs pts + szDs ds ≤ 190
  wd : wide + szPs pts ≤ 40
  wp : ∀ p ∈ pts, wfP nm ps p
  wdd : ∀ x ∈ ds, x.2 ≤ 7 ∧ wfD nm ps (7 - x.2) x.1
/-- what comes up: a part, or a deed -/
theorem BI.pop {H : Hp} {nm : Nat} {ps : List Nat} {D : Addr} {pts : List Pt} {ds : List (Dd × Nat)} {at_ wide : Nat} (h : BI K H nm ps D pts ds at_ wide) (hn : stk pts ds ≠ []) :
    ∃ us v t ar rest wide' pts' ds', H D = some (.lst (us ++ [v])) ∧ IsEnt K H v (t, ar) ∧ Ents K H us rest.reverse ∧ within t ar ++ rest = stk pts' ds' ∧ (within t ar).length ≤ 190 ∧ ownOk nm ps t ∧ (isP t = true → ar = -1 ∧ wide' = wide + 1) ∧ (isP t = false → 0 ≤ ar ∧ wide' = 0) ∧ at_ ≤ 189 ∧ ar ≤ 7 ∧ wide' ≤ 40 ∧
      at_ + 1 + szPs pts' + szDs ds' ≤ 190 ∧ wide' + szPs pts' ≤ 40 ∧ (∀ p ∈ pts', wfP nm ps p) ∧ (∀ x ∈ ds', x.2 ≤ 7 ∧ wfD nm ps (7 - x.2) x.1) ∧ szPs pts' + szDs ds' < szPs pts + szDs ds ∧ rest.length ≤ 190 := by
  obtain ⟨⟨vs, eD, es⟩, sz, wd, wp, wdd⟩ := h
  cases pts with
  | cons p r =>
    have e1 : (stk (p :: r) ds).reverse = (stk r ds).reverse ++ [(Th.p p, (-1 : Int))] := by simp [stk]
    rw [e1] at es
    obtain ⟨us, v, rfl, es', hv⟩ := es.snoc
    have h1 := sz_inner p
    have h2 := szPs_len (innerP p)
    have h3 := szPs_len r
    have h4 := szDs_len ds
    simp only [szPs] at sz wd ⊢
    have lw : within (Th.p p) (-1) = (innerP p).map fun p => (Th.p p, (-1 : Int)) := by simp [within, innerT, bodT]
    refine ⟨us, v, .p p, -1, stk r ds, wide + 1, innerP p ++ r, ds, eD, hv, es', ?_, ?_, own_p (wp p (by simp)), fun _ => ⟨rfl, rfl⟩, (fun z => by cases z), by omega, by omega, by omega, ?_, ?_, ?_, wdd, ?_, ?_⟩
    · rw [lw]; simp [stk]
    · rw [lw, List.length_map]; omega
    · rw [szPs_app]; omega
    · rw [szPs_app]; omega
    · intro q hq
      rcases List.mem_append.mp hq with h | h
      · exact wfP_all (wp p (by simp)) q h
      · exact wp q (by simp [h])
    · rw [szPs_app]; omega
    · simp only [stk, List.length_append, List.length_map]; omega
  | nil =>
    cases ds with
    | nil => exact absurd rfl hn
    | cons x r =>
      obtain ⟨d, a⟩ := x
      have e1 : (stk [] ((d, a) :: r)).reverse = (stk [] r).reverse ++ [(Th.d d, (a : Int))] := by simp [stk]
      rw [e1] at es
      obtain ⟨us, v, rfl, es', hv⟩ := es.snoc
      obtain ⟨ha, wD⟩ := wdd (d, a) (by simp)
      have h1 := sz_innerD d
      have h2 := szPs_len (innerD d)
      have h3 := szB_len' (bodT (.d d)).flatten
      have h4 := szDs_len r
      have h5 : szPs (innerD d) ≤ 40 := sz_inner40 wD
      simp only [szPs, szDs] at sz ⊢
      refine ⟨us, v, .d d, a, stk [] r, 0, innerD d, (bodT (.d d)).flatten.map (fun d => (d, a + 1)) ++ r, eD, hv, es', ?_, ?_, own_d wD, (fun z => by cases z), fun _ => ⟨by omega, rfl⟩, by omega, by omega, by omega, ?_, by omega, wfD_all wD, ?_, ?_, ?_⟩
      · simp [within, stk, innerT, List.map_map, Function.comp_def]
      · simp only [within, innerT, List.length_append, List.length_map]; omega
      · rw [szDs_app, szDs_map]; omega
      · intro y hy
        rcases List.mem_append.mp hy with h | h
        · obtain ⟨d', hd', rfl⟩ := List.mem_map.mp h
          obtain ⟨k, hk, wk⟩ := wf_bodies wD d' hd'
          refine ⟨by simp only; omega, ?_⟩
          have : 7 - (a + 1) = k := by simp only at hk; omega
          simp only [this]
          exact wk
        · exact wdd y (by simp [h])
      · rw [szDs_app, szDs_map]; omega
      · simp only [stk, List.map_nil, List.nil_append, List.length_map]; omega
theorem g_revA {te : TE} {σ : L2.St} {H : Hp} {R : It → Hp → Prop} (h : te σ H fun v H1 => ∃ (a : Addr) (xs : List V), v = .ref a ∧ ((SqL K H1 a xs ∧ R (Itv K a xs.length) H1) ∨ (SqT K H1 a xs ∧ R (RT.ItvT K a xs.length) H1))) : RT.iRevA K te σ H R := h
theorem g_orT {ta tb : TE} {σ : L2.St} {H : Hp} {Q : VK} (h : ta σ H fun x H1 => ∃ k, TruV K x H1 k ∧ if k = true then Q x H1 else tb σ H1 Q) : tOrT K ta tb σ H Q := h
theorem tru_no {H : Hp} : TruV K (.str "") H false := ⟨Nat.zero_le _, rfl⟩
theorem fn_body_flaw (C : Cn w K mg base) : Fn P w K mg base CX0 4 "body_flaw" ["body", "names", "params"] (spBodyFlaw K) := C.f_body_flaw fun fd F => by
  have F_bound_flaw : Fn P w K mg base CX0 1 "bound_flaw" ["at", "around", "wide"] (spBound K) := fn_bound C
  have F_shape_flaw : Fn P w K mg base CX0 2 "shape_flaw" ["thing", "around"] (spShape K) := fn_shape C
  have F_number_flaw : Fn P w K mg base CX0 2 "number_flaw" ["thing", "names", "params"] (spNumber K) := fn_number C
  have F_things_within : Fn P w K mg base CX0 3 "things_within" ["thing", "around"] (spWithin K) := fn_within C
  refine F.ok (CX := CX0) sc_body_flaw (fun vs H Q E h => ?_) (fun cdv A outer s H vs Q E hr h => ?_)
  · obtain ⟨v, b, nm, pl, ps, rfl, _⟩ := h
    rfl
  · obtain ⟨v, b, nm, pl, ps, rfl, rep, hpl, wb, szb, q⟩ := h
    refine ⟨_, PSs.nox (pss_cons (ps_setLc (i := 3) (own := [("deed", 9)]) (g := gName 9) (tt := tYes) rfl sc_body_flaw.nd rfl rfl (sw_true rfl rfl rfl (by decide +kernel)) (RT.pi_revA (by rfl) (C.m_reversed) (pv 0)) (blkOk_by (own := [("deed", 9)]) (N := ["body", "names", "params", "todo", "at", "wide", "thing", "around", "why", "deed"]) (sc := defScope s_body_flaw) (by decide +kernel)) (fun _ _ _ _ _ => pg_name (i := 9) sc_body_flaw.nd rfl (Or.inl rfl)) (fun _ _ _ _ _ => pts_nil) (fun _ _ _ _ _ => (pe_tupCK K (pa_cons (pv 9) (pa_cons pe_int pa_nil)))))
      (pss_cons (ps_set (i := 4) sc_body_flaw.nd rfl (Or.inl rfl) pe_int)
      (pss_cons (ps_set (i := 5) sc_body_flaw.nd rfl (Or.inl rfl) pe_int)
      (pss_cons (ps_while PassesOwn.never (pt_truth (pv 3) (by intro _; rfl)) (pss_cons (ps_asg (pe_bm0 PySem.F.plainAttrs_list PySem.F.slot_list_pop PySem.F.type_list_pop mt_pop (pv 3)) (pg_tup rfl (pgs_cons (pg_name (i := 6) sc_body_flaw.nd rfl (Or.inl rfl)) (pgs_cons (pg_name (i := 7) sc_body_flaw.nd rfl (Or.inl rfl)) pgs_nil))))
      (pss_cons (ps_set (i := 5) sc_body_flaw.nd rfl (Or.inl rfl) (pe_mid (pe_ifExp (pt_cmpR op_eq (pv 7) (pe_iglob (by rfl) C.i_A_PART) (nomark _)) (pe_op op_add (pv 5) pe_int) pe_int)))
      (pss_cons (ps_set (i := 8) sc_body_flaw.nd rfl (Or.inl rfl) (pe_mid (pe_orT (pe_fn F_bound_flaw (rmm hr) (by rfl) pass0 (pa_cons (pv 4) (pa_cons (pv 7) (pa_cons (pv 5) pa_nil)))) (pe_orT (pe_fn F_shape_flaw (rmm hr) (by rfl) pass0 (pa_cons (pv 6) (pa_cons (pv 7) pa_nil))) (pe_one (pe_fn F_number_flaw (rmm hr) (by rfl) pass0 (pa_cons (pv 6) (pa_cons (pv 1) (pa_cons (pv 2) pa_nil)))))))))
      (pss_cons (ps_if (pt_truth (pv 8) (by intro _; rfl)) (pss_one (ps_ret (pe_tupC (pa_cons (pv 4) (pa_cons (pv 8) pa_nil))))) pss_nil)
      (pss_cons (ps_expr (pe_bm PySem.F.plainAttrs_list PySem.F.slot_list_extend PySem.F.type_list_extend mt_extend (pv 3) (pa_cons (pe_fn F_things_within (rmm hr) (by rfl) pass0 (pa_cons (pv 6) (pa_cons (pv 7) pa_nil))) pa_nil)))
      (pss_one (ps_aug (i := 4) sc_body_flaw.nd rfl (Or.inl rfl) pe_int ip_add))))))))
      (pss_one (ps_ret pe_non)))))), ?_⟩
    obtain ⟨ba, bvs, rfl, hba, rbs⟩ := rep.tupI
    have lbv : bvs.length = b.length := by rw [rbs.len, encB_len]
    have lb := szB_len' b
    walk_at "go"
    refine g_revA ?_
    walk_at "g"
    refine ⟨ba, bvs, rfl, .inr ⟨hba, fun D nD => ?_⟩⟩
    have npD : pl ≠ D := ne_of_none hpl nD
    refine lcR (xs := bvs) (fun i H' => Ch K [] H H' ∧ ∃ vs, H' D = some (.lst vs) ∧ Ents K H' vs ((b.reverse.take i).map fun d => (Th.d d, (0 : Int)))) ⟨Ch.new nD, [], upd_same, by
      rw [List.take_zero]
      exact .nil⟩ (fun i H' p => p.1.sqT hba) ?_ ?_
    · rintro i x H2 hx hi ⟨c2, vs, eD, es⟩
      obtain ⟨d, hd, rd⟩ := reps_ds rbs hx
      have hd' : b.reverse[i]? = some d := by
        rw [List.getElem?_reverse (by omega)]
        rw [← lbv]
        exact hd
      walk_at "g"
      refine ⟨szle (by simp), fun tp H3 _ e3 c3 => ?_⟩
      have eD3 := c3.up _ _ eD (by simp)
      have c4 : Ch K [] H (upd H3 D (.lst (vs ++ [V.ref tp]))) := Ch.wrN (c2.trans c3) nD eD3 rfl
      have k4 : Kt K H3 (upd H3 D (.lst (vs ++ [V.ref tp]))) := (Ch.wrL (S := [D]) eD3 (by simp)).kt
      have l1 := es.len
      rw [List.length_map, List.length_take, List.length_reverse] at l1
      refine ⟨vs, eD3, szlt (by omega), c4, _, upd_same, ?_⟩
      rw [List.take_add_one, hd', List.map_append]
      exact (es.kt (c3.kt.trans k4)).append (.cons ⟨tp, x, rfl, k4.t _ _ (SqT.of e3), rd.kt c4.kt⟩ .nil)
    · rintro H2 ⟨c2, vs, eD, es⟩
      rw [List.take_of_length_le (by rw [List.length_reverse]; omega)] at es
      have es2 : Ents K H2 vs (stk [] (b.map fun d => (d, 0))).reverse := by
        simpa [stk, List.map_map, Function.comp_def] using es
      walk_at "g"
      refine g_while ⟨fun m σ' H' => ∃ pts ds at_ wide x6 x7 x8 x9, σ' = [some (.ref ba), some (.int (nm : Nat)), some (.ref pl), some (.ref D), some (.int (at_ : Nat)), some (.int (wide : Nat)), x6, x7, x8, x9] ∧ m = szPs pts + szDs ds ∧ Ch K [] H H' ∧ BI K H' nm ps D pts ds at_ wide,
        ⟨_, [], b.map fun d => (d, 0), 0, 0, none, none, none, none, rfl, rfl, c2, ⟨⟨vs, eD, es2⟩, by simp only [szPs, szDs_map]; omega, by simp only [szPs]; omega, by simp, ?_⟩⟩, ?_⟩
      · intro x hx
        obtain ⟨d, hd, rfl⟩ := List.mem_map.mp hx
        obtain ⟨k, hk, wk⟩ := wfBs_mem wb hd
        refine ⟨by simp only; omega, ?_⟩
        have : k = 7 := by omega
        subst this
        exact wk
      · clear c2 eD es es2 vs H2
        rintro m σ' H2 ⟨pts, ds, at_, wide, x6, x7, x8, x9, rfl, rfl, c2, bi⟩
        obtain ⟨vs, eD, es⟩ := bi.e
        walk_at "g"
        refine ⟨!vs.isEmpty, .inl ⟨vs, SqL.of eD, rfl⟩, ?_⟩
        by_cases hn : stk pts ds = []
        · have : vs = [] := by
            rw [hn] at es
            cases es
            rfl
          subst this
          refine tkF rfl ?_
          walk_at "g"
          exact q H2 c2
        · obtain ⟨us, v, t, ar, rest, wide', pts', ds', eD2, ⟨tp, u, rfl, htp, ru⟩, eus, hst, lw, own, hp1, hp2, hat, har, hwd, sz', wd', wp', wdd', lt, lrest⟩ := bi.pop hn
          rw [eD] at eD2
          obtain rfl : vs = us ++ [V.ref tp] := by injection eD2 with e; injection e
          refine tkT (by simp) ⟨_, fun σ' H' h => h, ?_⟩
          have nD2 : H D = none := nD
          walk_at "g"
          refine ⟨_, _, V.ref tp, rfl, rfl, eD, by simp, ?_⟩
          rw [List.dropLast_concat]
          have c3 : Ch K [] H (upd H2 D (.lst us)) := Ch.wrN c2 nD eD rfl
          have k3 : Kt K H2 (upd H2 D (.lst us)) := (Ch.wrL (S := [D]) eD (by simp)).kt
          have eD3 : (upd H2 D (.lst us)) D = some (.lst us) := upd_same
          generalize upd H2 D (.lst us) = H3 at c3 k3 eD3 ⊢
          have htp3 := k3.t _ _ htp
          have ru3 := ru.kt k3
          have eus3 := eus.kt k3
          have hpl3 := c3.up _ _ hpl (by simp)
          walk_at "g"
          refine g_midE (fun v' H' => v' = .int (wide' : Nat) ∧ H' = H3) ?_ ?_
          · walk_at "g"
            cases hp : isP t with
            | true =>
              obtain ⟨rfl, rfl⟩ := hp1 hp
              walk_at "yes"
              exact ⟨rfl, rfl⟩
            | false =>
              obtain ⟨h0, rfl⟩ := hp2 hp
              refine tkF (decide_eq_false (fun z => by simp only [V.int.injEq] at z; omega)) ?_
              walk_at "g"
              exact ⟨rfl, rfl⟩
          · rintro _ H4 ⟨rfl, e4⟩
            rw [e4]
            clear e4 H4
            walk_at "g"
            refine g_midE (fun v' H' => v' = .str "" ∧ Ch K [] H3 H') ?_ ?_
            · refine g_orT ?_
              walk_at "g"
              refine ⟨_, _, _, rfl, by omega, by omega, by omega, ?_⟩
              refine ⟨false, tru_no, ?_⟩
              refine tkF rfl ?_
              refine g_orT ?_
              walk_at "g"
              refine ⟨u, t, nm, ps, ar, rfl, ru3, own, fun h => (hp1 h).1, fun h => (hp2 h).1, fun H4 c4 => ?_⟩
              refine ⟨false, tru_no, ?_⟩
              refine tkF rfl ?_
              walk_at "g"
              exact ⟨u, t, nm, pl, ps, rfl, ru3.kt c4.kt, c4.up _ _ hpl3 (by simp), own, fun H5 c5 => ⟨rfl, c4.trans c5⟩⟩
            · rintro _ H4 ⟨rfl, c4⟩
              have eD4 := c4.up _ _ eD3 (by simp)
              walk_at "g"
              refine ⟨false, tru_no, ?_⟩
              refine tkF rfl ?_
              walk_at "g"
              refine ⟨u, t, ar, rfl, ru3.kt c4.kt, by omega, fun H5 l5 us5 c5 n5 e5 es5 => ?_⟩
              have eD5 := c5.up _ _ eD4 (by simp)
              have l1 := eus.len
              have l2 := es5.len
              rw [List.length_reverse] at l1 l2
              walk_at "g"
              refine ⟨D, l5, us, us5, rfl, rfl, eD5, e5, szle (by omega), ?_⟩
              have c6 : Ch K [D] H5 (upd H5 D (.lst (us ++ us5))) := Ch.wrL eD5 (by simp)
              have c06 : Ch K [] H (upd H5 D (.lst (us ++ us5))) := Ch.wrN (c3.trans (c4.trans c5)) nD eD5 rfl
              walk_at "g"
              refine ⟨_, rfl, _, _, rfl, rfl, ?_⟩
              have eA : ((at_ : Nat) : Int) + 1 = ((at_ + 1 : Nat) : Int) := by omega
              refine ⟨szPs pts' + szDs ds', lt, pts', ds', at_ + 1, wide', some u, some (.int ar), some (.str ""), x9, ?_, rfl, c06, ⟨_, upd_same, ?_⟩, sz', wd', wp', wdd'⟩
              · rw [← eA]; rfl
              · rw [← hst, List.reverse_append]
                exact (eus3.kt ((c4.trans c5).kt.trans c6.kt)).append (es5.kt c6.kt)
end
end K3
end

section
set_option maxRecDepth 100000
set_option maxHeartbeats 1000000
open Bq L2
/-- one step of a reading; what is left are side goals and places to think -/
local macro_rules | `(tactic| walk_at "g1") => `(tactic| first
  | with_reducible refine' g_seq ?_ | with_reducible refine' g_asg ?_ | with_reducible refine' g_drop ?_ | with_reducible refine' g_ret ?_ | with_reducible refine' g_ifS ?_ | with_reducible refine' g_asgG ?_
  | ((with_reducible refine' g_var ?hv ?_); (case hv => rfl))
  | with_reducible refine' g_c ?_ | with_reducible refine' g_op ?_ | with_reducible refine' g_un ?_ | with_reducible refine' g_I0 ?_ | with_reducible refine' g_U ?_
  | with_reducible refine' g_test ?_ | with_reducible refine' g_tB ?_ | with_reducible refine Exists.intro _ (And.intro rfl ?_) 
  | ((with_reducible refine' g_andP ?ha ?hb ?_); (case ha => intro R q; walk_at "g"; exact q); (case hb => intro R q; walk_at "g"; exact q))
  | ((with_reducible refine' g_orP ?ha ?hb ?_); (case ha => intro R q; walk_at "g"; exact q); (case hb => intro R q; walk_at "g"; exact q))
  | with_reducible refine' g_and ?_ | with_reducible refine' g_or ?_ | with_reducible refine' g_not ?_
  | with_reducible refine' g_andV ?_ | with_reducible refine' g_orV ?_ | with_reducible refine' g_notV ?_ | with_reducible refine' g_if ?_ | with_reducible refine' g_nil ?_ | with_reducible refine' g_cons ?_
  | with_reducible refine' g_tup ?_ | with_reducible refine' g_lst ?_ | with_reducible refine' g_CB ?_ | with_reducible refine' g_Fn ?_ | with_reducible refine' g_next ?_ | with_reducible refine' g_retN ?_
  | with_reducible refine' g_name ?_ | with_reducible refine' g_sub ?_
  | ((with_reducible refine' g_ixL ?hs ?he ?_); (case hs => walk_at "lk"); (case he => walk_at "at"))
  | ((with_reducible refine' g_ixT ?hs ?he ?_); (case hs => walk_at "lk"); (case he => walk_at "at"))
  | ((with_reducible refine' g_setL ?hs ?he ?_); (case hs => walk_at "hp"); (case he => rfl))
  | ((with_reducible refine' g_app ?hs ?hz ?_); (case hs => walk_at "hp"); (case hz => walk_at "sz"))
  | ((with_reducible refine' ⟨_, _, rfl, Or.inl ?hs, ?_⟩); (case hs => walk_at "lk"))
  | ((with_reducible refine' ⟨_, _, rfl, Or.inr ?hs, ?_⟩); (case hs => walk_at "lk"))
  | with_reducible refine' g_BM ?_ | with_reducible refine' g_BM0 ?_ | ((with_reducible refine' g_tyL ?hs ?_); (case hs => walk_at "lk"))
  | with_reducible refine' g_sl ?_ | with_reducible refine' g_noPart ?_ | with_reducible refine' g_part ?_
  | ((with_reducible refine' g_inT ?hs ?fx ?fs ?_); (case hs => walk_at "lk"); (case fx => rfl); (case fs => rfl))
  | with_reducible refine' g_pair ?_ | with_reducible refine' g_pair0 ?_ | with_reducible refine' g_disp ?_
  | with_reducible refine' g_for ?_ | with_reducible refine' g_tupC ?_ | with_reducible refine' g_lstC ?_ | ((with_reducible refine' g_lens ?_)) | with_reducible refine' g_dg ?_ | with_reducible refine' g_lc ?_ | with_reducible refine' g_rng1 ?_ | with_reducible refine' g_ilist ?_ | with_reducible refine' g_itup ?_
  | ((with_reducible refine' ⟨_, _, rfl, ?hd, ?_⟩); (case hd => walk_at "dg"))
  | ((with_reducible refine' g_eqNil ?hs ?hz ?_); (case hs => walk_at "lk"); (case hz => walk_at "lk"))
  | ((with_reducible refine' g_neNil ?hs ?hz ?_); (case hs => walk_at "lk"); (case hz => walk_at "lk"))
  | with_reducible refine Or.inl ⟨_, rfl, ?_⟩
  | with_reducible refine Or.inr ⟨_, rfl, ?_⟩
  | ((with_reducible refine' g_eq ?hs ?_); (case hs => rfl))
  | ((with_reducible refine' g_ne ?hs ?_); (case hs => rfl))
  | ((with_reducible refine' g_I ?hc ?_); (case hc => walk_at "ar")))
/-- arithmetic's side conditions -/
local macro_rules | `(tactic| walk_at "ar") => `(tactic| (first
  | (show (0 : Int) < _; first | omega | decide) | (show (0 : Int) < _ ∧ _; constructor <;> omega) | (show ¬ (_ : Int) = _; omega) | (show (_ : Int) ≠ _ ∧ _; constructor <;> omega)
  | (show (-(2 ^ 64) < _ ∧ _) ∨ _; (first | (left; constructor <;> omega) | (right; constructor <;> omega))) | (show (0 : Int) ≤ _ ∧ _ ∧ _; refine ⟨by omega, by omega, by decide⟩)))
/-- what stands at an index -/
local macro_rules | `(tactic| walk_at "at") => `(tactic| first | rfl | assumption)
/-- what stands at an address -/
local macro_rules | `(tactic| walk_at "hp") => `(tactic| first | assumption | exact upd_same | ((refine' Eq.trans (upd_ne ?hn) ?hm); (case hm => walk_at "hp"); (case hn => walk_at "ne")))
/-- two places are two -/
local macro_rules | `(tactic| walk_at "ne") => `(tactic| first
  | assumption | exact Ne.symm (by assumption)
  | ((refine' ne_of_none ?ha ?hb); (case hb => assumption); (case ha => walk_at "hp")) | ((refine' Ne.symm (ne_of_none ?ha ?hb)); (case hb => assumption); (case ha => walk_at "hp")))
/-- what a dict tells -/
local macro_rules | `(tactic| walk_at "dg") => `(tactic| first | assumption)
/-- a length -/
local macro_rules | `(tactic| walk_at "sz") => `(tactic| first | (show _ ≤ sizeLine; decide) | (show _ < sizeLine; decide) | assumption | exact szlt (by simp) | exact szle (by simp))
/-- a list or tuple that stands -/
local macro_rules | `(tactic| walk_at "lk") => `(tactic| first | assumption | exact SqL.of (by assumption) | exact SqT.of (by assumption) | exact SqL.of upd_same | exact SqT.of upd_same | (refine' FzL.sq ?hm; (case hm => walk_at "fz")))
/-- a list that nobody writes -/
local macro_rules | `(tactic| walk_at "fz") => `(tactic| first | assumption | ((refine' FzL.uw ?hm ?hx); (case hx => walk_at "hp"); (case hm => walk_at "fz")) | ((refine' FzL.nw ?hm ?hx); (case hx => assumption); (case hm => walk_at "fz")))
/-- as far as it goes by itself -/
local macro_rules | `(tactic| walk_at "g") => `(tactic| repeat walk_at "g1")
/-- the body's reading, its places in short -/
local macro_rules | `(tactic| walk_at "go") => `(tactic| ((try dsimp only [cxOf, Cx.nox, Cx.wish]); walk_at "g"))
namespace K3
open PySem PySem.Spec PyProof.Rows L2 Bq
section
variable {P : Program} {w : World} {K : PySem.W.Frag} {mg : Str → Option Value} {base : Heap}
/-- further steps: dicts written, tuples taken apart -/
local macro_rules | `(tactic| walk_at "g1") => `(tactic| first
  | with_reducible refine' g_sdput ?_
  | ((with_reducible refine' g_gtup ?hs ?hl ?_); (case hs => walk_at "lk"); (case hl => rfl))
  | with_reducible refine' g_gcons ?_
  | with_reducible refine' g_gnil ?_
  | with_reducible refine' And.intro (Eq.refl V.non) ?_
  | with_reducible refine' g_isN ?_
  | ((with_reducible refine' g_chainR ?ha ?hb ?hc ?_); (case ha => intro R q; walk_at "g"; exact q); (case hb => intro R q; walk_at "g"; exact q); (case hc => intro R q; walk_at "g"; exact q))
  | with_reducible refine' g_notN ?_)
/-- what the law's dict tells -/
local macro_rules | `(tactic| walk_at "dg") => `(tactic| first
  | assumption
  | exact LH.gfuns (by assumption)
  | exact LH.gsaid (by assumption)
  | exact LH.gcells (by assumption)
  | exact LH.gfuel (by assumption)
  | exact LH.gend (by assumption)
  | exact LH.gcalls (by assumption)
  | exact LH.gnames (by assumption)
  | exact LH.gwaits (by assumption)
  | exact LH.gworth (by assumption)
  | exact LH.glook (by assumption))
/-- a test that fails, that holds, by itself -/
local macro_rules | `(tactic| walk_at "no") => `(tactic| ((refine tkF rfl ?_); walk_at "g"))
local macro_rules | `(tactic| walk_at "yes") => `(tactic| ((refine tkT rfl ?_); walk_at "g"))
theorem g_chainG {ta tb tc : TE} {i j k : Int} {f g : Int → Int → Bool} {σ : L2.St} {H : Hp} {Q : VK} (h1 : ∀ R : VK, R (.int i) H → ta σ H R) (h2 : ∀ R : VK, R (.int j) H → tb σ H R) (h3 : ∀ R : VK, R (.int k) H → tc σ H R)
    (q : Q (.bl (f i j && g j k)) H) : tChain (rI0 fun i j => V.bl (f i j)) (rI0 fun i j => V.bl (g i j)) ta tb tc σ H Q := by
  refine h1 _ (h2 _ (g_I0 ⟨_, rfl, ?_⟩))
  cases e : f i j with
  | false =>
    rw [if_neg Bool.false_ne_true]
    rw [e] at q
    exact q
  | true =>
    rw [if_pos rfl]
    rw [e] at q
    exact h3 _ (g_I0 q)
local macro_rules | `(tactic| walk_at "g1") => `(tactic|
  ((with_reducible refine' g_chainG ?ha ?hb ?hc ?_); (case ha => intro R q; walk_at "g"; exact q); (case hb => intro R q; walk_at "g"; exact q); (case hc => intro R q; walk_at "g"; exact q)))
/-! ### a fun, a program, fuel looked at -/
def spFunFlaw (K : PySem.W.Frag) : Sp := fun vs H Q _ => ∃ v f pl, ∃ (ps : List Nat) (k : Nat), vs = [.int (k : Nat), v, .ref pl] ∧ Rep K H v (encF f) ∧ H pl = some (.lst (ps.map fun n => V.int (n : Nat))) ∧ WfFu ps f ∧ (k = 0 → f.ps = 0) ∧ ∀ H', Ch K [] H H' → Q .non H'
theorem fn_fun_flaw (C : Cn w K mg base) : Fn P w K mg base CX0 5 "fun_flaw" ["number", "fun", "params"] (spFunFlaw K) := C.f_fun_flaw fun fd F => by
  have F_params_of : Fn P w K mg base CX0 2 "params_of" ["fun"] (spParamsOf K) := fn_params_of C
  have F_is_number : Fn P w K mg base CX0 1 "is_number" ["thing"] (spIsNum K) := fn_is_number C
  have F_body_flaw : Fn P w K mg base CX0 4 "body_flaw" ["body", "names", "params"] (spBodyFlaw K) := fn_body_flaw C
  refine F.ok (CX := CX0) sc_fun_flaw (fun vs H Q E h => ?_) (fun cdv A outer s H vs Q E hr h => ?_)
  · obtain ⟨v, f, pl, ps, k, rfl, _⟩ := h
    rfl
  · obtain ⟨v, f, pl, ps, k, rfl, rep, hpl, W, h0, q⟩ := h
    refine ⟨_, PSs.nox (pss_cons (ps_set (i := 3) sc_fun_flaw.nd rfl (Or.inl rfl) (pe_fn F_params_of (rmm hr) (by rfl) pass0 (pa_cons (pv 1) pa_nil)))
      (pss_cons (ps_set (i := 4) sc_fun_flaw.nd rfl (Or.inl rfl) (pe_mid (pe_ifExp (pt_cmpR op_gt (pv 0) pe_int (nomark _)) (pe_iglob (by rfl) C.i_MOST_PARAMS) pe_int)))
      (pss_cons (ps_if (pt_mid (PW.pt (pw_or (pt_cmpR op_isN (pv 3) pe_non (nomark _)) (pw_or1 (pt_not (pt_chain op_le op_le pe_int (pv 3) (pv 4))))))) (pss_one (ps_ret (pe_tupC (pa_cons (pe_un un_neg pe_int) (pa_cons pe_str pa_nil))))) pss_nil)
      (pss_cons (ps_asg (pv 1) (pg_tup rfl (pgs_cons (pg_name (i := 5) sc_fun_flaw.nd rfl (Or.inl rfl)) (pgs_cons (pg_name (i := 6) sc_fun_flaw.nd rfl (Or.inl rfl)) (pgs_cons (pg_name (i := 7) sc_fun_flaw.nd rfl (Or.inl rfl)) pgs_nil)))))
      (pss_cons (ps_if (pt_mid (PW.pt (pw_or (pt_not (pt_val (pe_fn F_is_number (rmm hr) (by rfl) pass0 (pa_cons (pv 6) pa_nil)))) (pw_or1 (pt_not (pt_chain op_le op_le (pv 3) (pv 6) (pe_iglob (by rfl) C.i_MOST_NAMES))))))) (pss_one (ps_ret (pe_tupC (pa_cons (pe_un un_neg pe_int) (pa_cons pe_str pa_nil))))) pss_nil)
      (pss_cons (ps_if (pt_not (pt_val (pe_callB call_isi (by rfl) (C.m_isinstance) (by decide +kernel) (pa_cons (pv 7) (pa_cons (pe_bty "tuple" (by rfl) (C.m_tuple) (by decide +kernel)) pa_nil))))) (pss_one (ps_ret (pe_tupC (pa_cons pe_int (pa_cons pe_str pa_nil))))) pss_nil)
      (pss_one (ps_ret (pe_fn F_body_flaw (rmm hr) (by rfl) pass0 (pa_cons (pv 7) (pa_cons (pv 6) (pa_cons (pv 2) pa_nil)))))))))))), ?_⟩
    have ty := rep.ty
    have p4 := W.p4
    have pn := W.pn
    have n8 := W.n8
    walk_at "go"
    refine ⟨v, f, rfl, rep, ?_⟩
    walk_at "g"
    refine g_midE (fun v' H' => v' = .int (if k = 0 then 0 else 4) ∧ H' = H) ?_ ?_
    · walk_at "g"
      by_cases hk : k = 0
      · subst hk
        walk_at "no"
        exact ⟨rfl, rfl⟩
      · refine tkT (decide_eq_true (by omega)) ?_
        walk_at "g"
        rw [if_neg hk]
        exact ⟨rfl, rfl⟩
    · rintro _ H1 ⟨rfl, e1⟩
      rw [e1]
      clear e1 H1
      walk_at "g"
      refine g_mid (fun b H' => b = false ∧ H' = H) ?_ ?_
      · walk_at "g"
        refine ⟨?_, rfl⟩
        by_cases hk : k = 0
        · rw [if_pos hk, h0 hk]
          simp
        · rw [if_neg hk]
          simp
          omega
      · rintro _ H1 ⟨rfl, e1⟩
        rw [e1]
        clear e1 H1
        walk_at "no"
        obtain ⟨ga, gvs, rfl, hga, rgs⟩ := rep.tupI
        obtain ⟨g0, gr, rfl, r0, rgs⟩ := rgs.consI
        obtain ⟨g1, gr, rfl, r1, rgs⟩ := rgs.consI
        obtain ⟨g2, gr, rfl, r2, rgs⟩ := rgs.consI
        obtain rfl := rgs.nilI
        obtain rfl := r0.intI
        obtain rfl := r1.intI
        walk_at "g"
        refine g_mid (fun b H' => b = false ∧ H' = H) ?_ ?_
        · walk_at "g"
          refine ⟨_, .int (f.nm : Nat), rfl, .int _, ?_⟩
          walk_at "g"
          walk_at "no"
          refine ⟨?_, rfl⟩
          simp
          omega
        · rintro _ H1 ⟨rfl, e1⟩
          rw [e1]
          clear e1 H1
          walk_at "no"
          refine g_isi r2.ty (kit_tuple (.tup _)) ?_
          walk_at "g"
          walk_at "no"
          exact ⟨_, f.body, f.nm, pl, ps, rfl, r2, hpl, W.wb, W.sz, fun H1 c1 => q H1 c1⟩
end
end K3
end

section
set_option maxRecDepth 100000
set_option maxHeartbeats 1000000
open Bq L2
/-- one step of a reading; what is left are side goals and places to think -/
local macro_rules | `(tactic| walk_at "g1") => `(tactic| first
  | with_reducible refine' g_seq ?_ | with_reducible refine' g_asg ?_ | with_reducible refine' g_drop ?_ | with_reducible refine' g_ret ?_ | with_reducible refine' g_ifS ?_ | with_reducible refine' g_asgG ?_
  | ((with_reducible refine' g_var ?hv ?_); (case hv => rfl))
  | with_reducible refine' g_c ?_ | with_reducible refine' g_op ?_ | with_reducible refine' g_un ?_ | with_reducible refine' g_I0 ?_ | with_reducible refine' g_U ?_
  | with_reducible refine' g_test ?_ | with_reducible refine' g_tB ?_ | with_reducible refine Exists.intro _ (And.intro rfl ?_) 
  | ((with_reducible refine' g_andP ?ha ?hb ?_); (case ha => intro R q; walk_at "g"; exact q); (case hb => intro R q; walk_at "g"; exact q))
  | ((with_reducible refine' g_orP ?ha ?hb ?_); (case ha => intro R q; walk_at "g"; exact q); (case hb => intro R q; walk_at "g"; exact q))
  | with_reducible refine' g_and ?_ | with_reducible refine' g_or ?_ | with_reducible refine' g_not ?_
  | with_reducible refine' g_andV ?_ | with_reducible refine' g_orV ?_ | with_reducible refine' g_notV ?_ | with_reducible refine' g_if ?_ | with_reducible refine' g_nil ?_ | with_reducible refine' g_cons ?_
  | with_reducible refine' g_tup ?_ | with_reducible refine' g_lst ?_ | with_reducible refine' g_CB ?_ | with_reducible refine' g_Fn ?_ | with_reducible refine' g_next ?_ | with_reducible refine' g_retN ?_
  | with_reducible refine' g_name ?_ | with_reducible refine' g_sub ?_
  | ((with_reducible refine' g_ixL ?hs ?he ?_); (case hs => walk_at "lk"); (case he => walk_at "at"))
  | ((with_reducible refine' g_ixT ?hs ?he ?_); (case hs => walk_at "lk"); (case he => walk_at "at"))
  | ((with_reducible refine' g_setL ?hs ?he ?_); (case hs => walk_at "hp"); (case he => rfl))
  | ((with_reducible refine' g_app ?hs ?hz ?_); (case hs => walk_at "hp"); (case hz => walk_at "sz"))
  | ((with_reducible refine' ⟨_, _, rfl, Or.inl ?hs, ?_⟩); (case hs => walk_at "lk"))
  | ((with_reducible refine' ⟨_, _, rfl, Or.inr ?hs, ?_⟩); (case hs => walk_at "lk"))
  | with_reducible refine' g_BM ?_ | with_reducible refine' g_BM0 ?_ | ((with_reducible refine' g_tyL ?hs ?_); (case hs => walk_at "lk"))
  | with_reducible refine' g_sl ?_ | with_reducible refine' g_noPart ?_ | with_reducible refine' g_part ?_
  | ((with_reducible refine' g_inT ?hs ?fx ?fs ?_); (case hs => walk_at "lk"); (case fx => rfl); (case fs => rfl))
  | with_reducible refine' g_pair ?_ | with_reducible refine' g_pair0 ?_ | with_reducible refine' g_disp ?_
  | with_reducible refine' g_for ?_ | with_reducible refine' g_tupC ?_ | with_reducible refine' g_lstC ?_ | ((with_reducible refine' g_lens ?_)) | with_reducible refine' g_dg ?_ | with_reducible refine' g_lc ?_ | with_reducible refine' g_rng1 ?_ | with_reducible refine' g_ilist ?_ | with_reducible refine' g_itup ?_
  | ((with_reducible refine' ⟨_, _, rfl, ?hd, ?_⟩); (case hd => walk_at "dg"))
  | ((with_reducible refine' g_eqNil ?hs ?hz ?_); (case hs => walk_at "lk"); (case hz => walk_at "lk"))
  | ((with_reducible refine' g_neNil ?hs ?hz ?_); (case hs => walk_at "lk"); (case hz => walk_at "lk"))
  | with_reducible refine Or.inl ⟨_, rfl, ?_⟩
  | with_reducible refine Or.inr ⟨_, rfl, ?_⟩
  | ((with_reducible refine' g_eq ?hs ?_); (case hs => rfl))
  | ((with_reducible refine' g_ne ?hs ?_); (case hs => rfl))
  | ((with_reducible refine' g_I ?hc ?_); (case hc => walk_at "ar")))
/-- arithmetic's side conditions -/
local macro_rules | `(tactic| walk_at "ar") => `(tactic| (first
  | (show (0 : Int) < _; first | omega | decide) | (show (0 : Int) < _ ∧ _; constructor <;> omega) | (show ¬ (_ : Int) = _; omega) | (show (_ : Int) ≠ _ ∧ _; constructor <;> omega)
  | (show (-(2 ^ 64) < _ ∧ _) ∨ _; (first | (left; constructor <;> omega) | (right; constructor <;> omega))) | (show (0 : Int) ≤ _ ∧ _ ∧ _; refine ⟨by omega, by omega, by decide⟩)))
/-- what stands at an index -/
local macro_rules | `(tactic| walk_at "at") => `(tactic| first | rfl | assumption)
/-- what stands at an address -/
local macro_rules | `(tactic| walk_at "hp") => `(tactic| first | assumption | exact upd_same | ((refine' Eq.trans (upd_ne ?hn) ?hm); (case hm => walk_at "hp"); (case hn => walk_at "ne")))
/-- two places are two -/
local macro_rules | `(tactic| walk_at "ne") => `(tactic| first
  | assumption | exact Ne.symm (by assumption)
  | ((refine' ne_of_none ?ha ?hb); (case hb => assumption); (case ha => walk_at "hp")) | ((refine' Ne.symm (ne_of_none ?ha ?hb)); (case hb => assumption); (case ha => walk_at "hp")))
/-- what a dict tells -/
local macro_rules | `(tactic| walk_at "dg") => `(tactic| first | assumption)
/-- a length -/
local macro_rules | `(tactic| walk_at "sz") => `(tactic| first | (show _ ≤ sizeLine; decide) | (show _ < sizeLine; decide) | assumption | exact szlt (by simp) | exact szle (by simp))
/-- a list or tuple that stands -/
local macro_rules | `(tactic| walk_at "lk") => `(tactic| first | assumption | exact SqL.of (by assumption) | exact SqT.of (by assumption) | exact SqL.of upd_same | exact SqT.of upd_same | (refine' FzL.sq ?hm; (case hm => walk_at "fz")))
/-- a list that nobody writes -/
local macro_rules | `(tactic| walk_at "fz") => `(tactic| first | assumption | ((refine' FzL.uw ?hm ?hx); (case hx => walk_at "hp"); (case hm => walk_at "fz")) | ((refine' FzL.nw ?hm ?hx); (case hx => assumption); (case hm => walk_at "fz")))
/-- as far as it goes by itself -/
local macro_rules | `(tactic| walk_at "g") => `(tactic| repeat walk_at "g1")
/-- the body's reading, its places in short -/
local macro_rules | `(tactic| walk_at "go") => `(tactic| ((try dsimp only [cxOf, Cx.nox, Cx.wish]); walk_at "g"))
namespace K3
open PySem PySem.Spec PyProof.Rows L2 Bq
section
variable {P : Program} {w : World} {K : PySem.W.Frag} {mg : Str → Option Value} {base : Heap}
/-- further steps: dicts written, tuples taken apart -/
local macro_rules | `(tactic| walk_at "g1") => `(tactic| first
  | with_reducible refine' g_sdput ?_
  | ((with_reducible refine' g_gtup ?hs ?hl ?_); (case hs => walk_at "lk"); (case hl => rfl))
  | with_reducible refine' g_gcons ?_
  | with_reducible refine' g_gnil ?_
  | with_reducible refine' And.intro (Eq.refl V.non) ?_
  | with_reducible refine' g_isN ?_
  | ((with_reducible refine' g_chainR ?ha ?hb ?hc ?_); (case ha => intro R q; walk_at "g"; exact q); (case hb => intro R q; walk_at "g"; exact q); (case hc => intro R q; walk_at "g"; exact q))
  | with_reducible refine' g_notN ?_)
/-- what the law's dict tells -/
local macro_rules | `(tactic| walk_at "dg") => `(tactic| first
  | assumption
  | exact LH.gfuns (by assumption)
  | exact LH.gsaid (by assumption)
  | exact LH.gcells (by assumption)
  | exact LH.gfuel (by assumption)
  | exact LH.gend (by assumption)
  | exact LH.gcalls (by assumption)
  | exact LH.gnames (by assumption)
  | exact LH.gwaits (by assumption)
  | exact LH.gworth (by assumption)
  | exact LH.glook (by assumption))
/-- a test that fails, that holds, by itself -/
local macro_rules | `(tactic| walk_at "no") => `(tactic| ((refine tkF rfl ?_); walk_at "g"))
local macro_rules | `(tactic| walk_at "yes") => `(tactic| ((refine tkT rfl ?_); walk_at "g"))
theorem g_chainG' {ta tb tc : TE} {i j k : Int} {f g : Int → Int → Bool} {σ : L2.St} {H : Hp} {Q : VK} (h1 : ∀ R : VK, R (.int i) H → ta σ H R) (h2 : ∀ R : VK, R (.int j) H → tb σ H R) (h3 : ∀ R : VK, R (.int k) H → tc σ H R)
    (q : Q (.bl (f i j && g j k)) H) : tChain (rI0 fun i j => V.bl (f i j)) (rI0 fun i j => V.bl (g i j)) ta tb tc σ H Q := g_chainG h1 h2 h3 q
local macro_rules | `(tactic| walk_at "g1") => `(tactic|
  ((with_reducible refine' g_chainG ?ha ?hb ?hc ?_); (case ha => intro R q; walk_at "g"; exact q); (case hb => intro R q; walk_at "g"; exact q); (case hc => intro R q; walk_at "g"; exact q)))
/-! ### fuel, a program looked at -/
def spCheckFuel (K : PySem.W.Frag) : Sp := fun vs H Q _ => ∃ n : Nat, vs = [.int n] ∧ n ≤ 3000 ∧ Q .non H
theorem fn_check_fuel (C : Cn w K mg base) : Fn P w K mg base CX0 2 "check_fuel" ["fuel"] (spCheckFuel K) := C.f_check_fuel fun fd F => by
  have F_is_number : Fn P w K mg base CX0 1 "is_number" ["thing"] (spIsNum K) := fn_is_number C
  refine F.ok (CX := CX0) sc_check_fuel (fun vs H Q E h => ?_) (fun cdv A outer s H vs Q E hr h => ?_)
  · obtain ⟨n, rfl, _⟩ := h
    rfl
  · obtain ⟨n, rfl, hn, q⟩ := h
    refine ⟨_, PSs.nox (pss_one (ps_if (pt_mid (PW.pt (pw_or (pt_not (pt_val (pe_fn F_is_number (rmm hr) (by rfl) pass0 (pa_cons (pv 0) pa_nil)))) (pw_or1 (pt_not (pt_chain op_le op_le pe_int (pv 0) (pe_iglob (by rfl) C.i_MOST_FUEL))))))) (pss_one ps_never) pss_nil)), ?_⟩
    walk_at "go"
    refine g_mid (fun b H' => b = false ∧ H' = H) ?_ ?_
    · walk_at "g"
      refine ⟨_, .int (n : Nat), rfl, .int _, ?_⟩
      walk_at "g"
      walk_at "no"
      refine ⟨?_, rfl⟩
      simp
      omega
    · rintro _ H1 ⟨rfl, e1⟩
      rw [e1]
      clear e1 H1
      walk_at "no"
      exact q
def spCheck (K : PySem.W.Frag) : Sp := fun vs H Q _ => ∃ v fs, vs = [v] ∧ Rep K H v (.tup (fs.map encF)) ∧ WfPr fs ∧ ∀ H', Ch K [] H H' → Q .non H'
theorem fn_check (C : Cn w K mg base) : Fn P w K mg base CX0 6 "check_program" ["program"] (spCheck K) := C.f_check_program fun fd F => by
  have F_params_of : Fn P w K mg base CX0 2 "params_of" ["fun"] (spParamsOf K) := fn_params_of C
  have F_fun_flaw : Fn P w K mg base CX0 5 "fun_flaw" ["number", "fun", "params"] (spFunFlaw K) := fn_fun_flaw C
  refine F.ok (CX := CX0) sc_check_program (fun vs H Q E h => ?_) (fun cdv A outer s H vs Q E hr h => ?_)
  · obtain ⟨v, fs, rfl, _⟩ := h
    rfl
  · obtain ⟨v, fs, rfl, rep, W, q⟩ := h
    refine ⟨_, PSs.nox (pss_cons (ps_if (pt_mid (PW.pt (pw_or (pt_not (pt_val (pe_callB call_isi (by rfl) (C.m_isinstance) (by decide +kernel) (pa_cons (pv 0) (pa_cons (pe_bty "tuple" (by rfl) (C.m_tuple) (by decide +kernel)) pa_nil))))) (pw_or1 (pt_not (pt_chain op_le op_le pe_int (pe_callB call_len_seq (by rfl) (C.m_len) PySem.boot_len (pa_cons (pv 0) pa_nil)) (pe_iglob (by rfl) C.i_MOST_FUNS))))))) (pss_one ps_never) pss_nil)
      (pss_cons (ps_setLc (i := 2) (own := [("fun", 1)]) (g := gName 1) (tt := tYes) rfl sc_check_program.nd rfl rfl (sw_true rfl rfl rfl (by decide +kernel)) (pi_tup (pv 0)) (blkOk_by (own := [("fun", 1)]) (N := ["program", "fun", "params", "number", "flaw", "at", "why"]) (sc := defScope s_check_program) (by decide +kernel)) (fun _ _ _ _ _ => pg_name (i := 1) sc_check_program.nd rfl (Or.inl rfl)) (fun _ _ _ _ _ => pts_nil) (fun _ _ _ _ _ => (pe_fn F_params_of (rmm hr) (by rfl) pass0 (pa_cons (pv 1) pa_nil))))
      (pss_one (ps_for PassesOwn.never rfl (pi_enumA (by rfl) (C.m_enumerate) (pa_cons (pv 0) pa_nil)) (pg_tup rfl (pgs_cons (pg_name (i := 3) sc_check_program.nd rfl (Or.inl rfl)) (pgs_cons (pg_name (i := 1) sc_check_program.nd rfl (Or.inl rfl)) pgs_nil))) (pss_cons (ps_set (i := 4) sc_check_program.nd rfl (Or.inl rfl) (pe_fn F_fun_flaw (rmm hr) (by rfl) pass0 (pa_cons (pv 3) (pa_cons (pv 1) (pa_cons (pv 2) pa_nil)))))
      (pss_one (ps_if (pt_cmpR op_notN (pv 4) pe_non (nomark _)) (pss_cons (ps_asg (pv 4) (pg_tup rfl (pgs_cons (pg_name (i := 5) sc_check_program.nd rfl (Or.inl rfl)) (pgs_cons (pg_name (i := 6) sc_check_program.nd rfl (Or.inl rfl)) pgs_nil))))
      (pss_one ps_never)) pss_nil))))))), ?_⟩
    have ty := rep.ty
    have n1 := W.n1
    have n8 := W.n8
    obtain ⟨ga, gvs, rfl, hga, rgs⟩ := rep.tupI
    have hl : gvs.length = fs.length := by rw [rgs.len, List.length_map]
    walk_at "go"
    refine g_mid (fun b H' => b = false ∧ H' = H) ?_ ?_
    · walk_at "g"
      refine g_isi ty (kit_tuple (.tup (fs.map encF))) ?_
      walk_at "g"
      walk_at "no"
      refine ⟨?_, rfl⟩
      simp
      omega
    · rintro _ H1 ⟨rfl, e1⟩
      rw [e1]
      clear e1 H1
      walk_at "no"
      refine ⟨⟨_, hga⟩, fun D nD => ?_⟩
      refine lcT1 (xs := gvs) (fun i H' => Ch K [] H H' ∧ H' D = some (.lst ((fs.take i).map fun f => V.int (f.ps : Nat)))) ⟨Ch.new nD, upd_same⟩ (fun i H' _ p => p.1.sqT hga) ?_ ?_
      · rintro i x H1 hx ⟨c1, e1⟩
        obtain ⟨t, ht, rt⟩ := rgs.get hx
        obtain ⟨f, hf, rfl⟩ : ∃ f, fs[i]? = some f ∧ encF f = t := by
          rw [List.getElem?_map] at ht
          cases e : fs[i]? with
          | none => rw [e] at ht; cases ht
          | some f => rw [e] at ht; exact ⟨f, rfl, Option.some.inj ht⟩
        walk_at "g"
        refine ⟨_, f, rfl, rt.kt c1.kt, ?_⟩
        refine ⟨_, e1, szlt (by rw [List.length_map, List.length_take]; omega), Ch.wrN c1 nD e1 rfl, ?_⟩
        rw [upd_same, List.take_add_one, hf]
        simp
      · rintro H1 ⟨c1, e1⟩
        have e1' : H1 D = some (.lst ((fs.map Fu.ps).map fun n => V.int (n : Nat))) := by
          rw [e1, hl, List.take_length, List.map_map]
          rfl
        have hga1 := c1.sqT hga
        have rgs1 := rgs.kt c1.kt
        walk_at "g"
        unfold iEnumA
        walk_at "g"
        refine for_enumT (fun i σ H' => ∃ x n f, σ = [some (.ref ga), x, some (.ref D), n, f, none, none] ∧ Ch K [] H1 H') ⟨none, none, none, rfl, Ch.refl⟩ (fun i σ H' ⟨_, _, _, _, c⟩ => c.sqT hga1) ?_ ?_
        · rintro i x _ H2 T hx ⟨x0, n0, f0, rfl, c2⟩ nT
          obtain ⟨t, ht, rt⟩ := rgs1.get hx
          obtain ⟨f, hf, rfl⟩ : ∃ f, fs[i]? = some f ∧ encF f = t := by
            rw [List.getElem?_map] at ht
            cases e : fs[i]? with
            | none => rw [e] at ht; cases ht
            | some f => rw [e] at ht; exact ⟨f, rfl, Option.some.inj ht⟩
          have c3 : Ch K [] H1 (upd H2 T (.tup [.int (i : Nat), x])) := c2.trans (Ch.new nT)
          have eT : (upd H2 T (.tup [.int (i : Nat), x])) T = some (.tup [.int (i : Nat), x]) := upd_same
          generalize upd H2 T (.tup [.int (i : Nat), x]) = H3 at c3 eT ⊢
          walk_at "g"
          refine ⟨x, f, D, fs.map Fu.ps, i, rfl, rt.kt c3.kt, c3.up _ _ e1' (by simp), W.all f (List.mem_of_getElem? hf), fun z => W.f0 f (by rw [← z]; exact hf), fun H4 c4 => ?_⟩
          walk_at "g"
          walk_at "no"
          exact ⟨_, _, _, rfl, c3.trans c4⟩
        · rintro _ H2 ⟨x0, n0, f0, rfl, c2⟩
          exact q H2 ((Ch.trans c1 c2))
end
end K3
end

section
set_option maxRecDepth 100000
set_option maxHeartbeats 1000000
open Bq L2
/-- one step of a reading; what is left are side goals and places to think -/
local macro_rules | `(tactic| walk_at "g1") => `(tactic| first
  | with_reducible refine' g_seq ?_ | with_reducible refine' g_asg ?_ | with_reducible refine' g_drop ?_ | with_reducible refine' g_ret ?_ | with_reducible refine' g_ifS ?_ | with_reducible refine' g_asgG ?_
  | ((with_reducible refine' g_var ?hv ?_); (case hv => rfl))
  | with_reducible refine' g_c ?_ | with_reducible refine' g_op ?_ | with_reducible refine' g_un ?_ | with_reducible refine' g_I0 ?_ | with_reducible refine' g_U ?_
  | with_reducible refine' g_test ?_ | with_reducible refine' g_tB ?_ | with_reducible refine Exists.intro _ (And.intro rfl ?_) 
  | ((with_reducible refine' g_andP ?ha ?hb ?_); (case ha => intro R q; walk_at "g"; exact q); (case hb => intro R q; walk_at "g"; exact q))
  | ((with_reducible refine' g_orP ?ha ?hb ?_); (case ha => intro R q; walk_at "g"; exact q); (case hb => intro R q; walk_at "g"; exact q))
  | with_reducible refine' g_and ?_ | with_reducible refine' g_or ?_ | with_reducible refine' g_not ?_
  | with_reducible refine' g_andV ?_ | with_reducible refine' g_orV ?_ | with_reducible refine' g_notV ?_ | with_reducible refine' g_if ?_ | with_reducible refine' g_nil ?_ | with_reducible refine' g_cons ?_
  | with_reducible refine' g_tup ?_ | with_reducible refine' g_lst ?_ | with_reducible refine' g_CB ?_ | with_reducible refine' g_Fn ?_ | with_reducible refine' g_next ?_ | with_reducible refine' g_retN ?_
  | with_reducible refine' g_name ?_ | with_reducible refine' g_sub ?_
  | ((with_reducible refine' g_ixL ?hs ?he ?_); (case hs => walk_at "lk"); (case he => walk_at "at"))
  | ((with_reducible refine' g_ixT ?hs ?he ?_); (case hs => walk_at "lk"); (case he => walk_at "at"))
  | ((with_reducible refine' g_setL ?hs ?he ?_); (case hs => walk_at "hp"); (case he => rfl))
  | ((with_reducible refine' g_app ?hs ?hz ?_); (case hs => walk_at "hp"); (case hz => walk_at "sz"))
  | ((with_reducible refine' ⟨_, _, rfl, Or.inl ?hs, ?_⟩); (case hs => walk_at "lk"))
  | ((with_reducible refine' ⟨_, _, rfl, Or.inr ?hs, ?_⟩); (case hs => walk_at "lk"))
  | with_reducible refine' g_BM ?_ | with_reducible refine' g_BM0 ?_ | ((with_reducible refine' g_tyL ?hs ?_); (case hs => walk_at "lk"))
  | with_reducible refine' g_sl ?_ | with_reducible refine' g_noPart ?_ | with_reducible refine' g_part ?_
  | ((with_reducible refine' g_inT ?hs ?fx ?fs ?_); (case hs => walk_at "lk"); (case fx => rfl); (case fs => rfl))
  | with_reducible refine' g_pair ?_ | with_reducible refine' g_pair0 ?_ | with_reducible refine' g_disp ?_
  | with_reducible refine' g_for ?_ | with_reducible refine' g_tupC ?_ | with_reducible refine' g_lstC ?_ | ((with_reducible refine' g_lens ?_)) | with_reducible refine' g_dg ?_ | with_reducible refine' g_lc ?_ | with_reducible refine' g_rng1 ?_ | with_reducible refine' g_ilist ?_ | with_reducible refine' g_itup ?_
  | ((with_reducible refine' ⟨_, _, rfl, ?hd, ?_⟩); (case hd => walk_at "dg"))
  | ((with_reducible refine' g_eqNil ?hs ?hz ?_); (case hs => walk_at "lk"); (case hz => walk_at "lk"))
  | ((with_reducible refine' g_neNil ?hs ?hz ?_); (case hs => walk_at "lk"); (case hz => walk_at "lk"))
  | with_reducible refine Or.inl ⟨_, rfl, ?_⟩
  | with_reducible refine Or.inr ⟨_, rfl, ?_⟩
  | ((with_reducible refine' g_eq ?hs ?_); (case hs => rfl))
  | ((with_reducible refine' g_ne ?hs ?_); (case hs => rfl))
  | ((with_reducible refine' g_I ?hc ?_); (case hc => walk_at "ar")))
/-- arithmetic's side conditions -/
local macro_rules | `(tactic| walk_at "ar") => `(tactic| (first
  | (show (0 : Int) < _; first | omega | decide) | (show (0 : Int) < _ ∧ _; constructor <;> omega) | (show ¬ (_ : Int) = _; omega) | (show (_ : Int) ≠ _ ∧ _; constructor <;> omega)
  | (show (-(2 ^ 64) < _ ∧ _) ∨ _; (first | (left; constructor <;> omega) | (right; constructor <;> omega))) | (show (0 : Int) ≤ _ ∧ _ ∧ _; refine ⟨by omega, by omega, by decide⟩)))
/-- what stands at an index -/
local macro_rules | `(tactic| walk_at "at") => `(tactic| first | rfl | assumption)
/-- what stands at an address -/
local macro_rules | `(tactic| walk_at "hp") => `(tactic| first | assumption | exact upd_same | ((refine' Eq.trans (upd_ne ?hn) ?hm); (case hm => walk_at "hp"); (case hn => walk_at "ne")))
/-- two places are two -/
local macro_rules | `(tactic| walk_at "ne") => `(tactic| first
  | assumption | exact Ne.symm (by assumption)
  | ((refine' ne_of_none ?ha ?hb); (case hb => assumption); (case ha => walk_at "hp")) | ((refine' Ne.symm (ne_of_none ?ha ?hb)); (case hb => assumption); (case ha => walk_at "hp")))
/-- what a dict tells -/
local macro_rules | `(tactic| walk_at "dg") => `(tactic| first | assumption)
/-- a length -/
local macro_rules | `(tactic| walk_at "sz") => `(tactic| first | (show _ ≤ sizeLine; decide) | (show _ < sizeLine; decide) | assumption | exact szlt (by simp) | exact szle (by simp))
/-- a list or tuple that stands -/
local macro_rules | `(tactic| walk_at "lk") => `(tactic| first | assumption | exact SqL.of (by assumption) | exact SqT.of (by assumption) | exact SqL.of upd_same | exact SqT.of upd_same | (refine' FzL.sq ?hm; (case hm => walk_at "fz")))
/-- a list that nobody writes -/
local macro_rules | `(tactic| walk_at "fz") => `(tactic| first | assumption | ((refine' FzL.uw ?hm ?hx); (case hx => walk_at "hp"); (case hm => walk_at "fz")) | ((refine' FzL.nw ?hm ?hx); (case hx => assumption); (case hm => walk_at "fz")))
/-- as far as it goes by itself -/
local macro_rules | `(tactic| walk_at "g") => `(tactic| repeat walk_at "g1")
/-- the body's reading, its places in short -/
local macro_rules | `(tactic| walk_at "go") => `(tactic| ((try dsimp only [cxOf, Cx.nox, Cx.wish]); walk_at "g"))
namespace K3
open PySem PySem.Spec PyProof.Rows L2 Bq
section
variable {P : Program} {w : World} {K : PySem.W.Frag} {mg : Str → Option Value} {base : Heap}
/-- further steps: dicts written, tuples taken apart -/
local macro_rules | `(tactic| walk_at "g1") => `(tactic| first
  | with_reducible refine' g_sdput ?_
  | ((with_reducible refine' g_gtup ?hs ?hl ?_); (case hs => walk_at "lk"); (case hl => rfl))
  | with_reducible refine' g_gcons ?_
  | with_reducible refine' g_gnil ?_
  | with_reducible refine' And.intro (Eq.refl V.non) ?_
  | with_reducible refine' g_isN ?_
  | ((with_reducible refine' g_chainR ?ha ?hb ?hc ?_); (case ha => intro R q; walk_at "g"; exact q); (case hb => intro R q; walk_at "g"; exact q); (case hc => intro R q; walk_at "g"; exact q))
  | with_reducible refine' g_notN ?_)
/-- what the law's dict tells -/
local macro_rules | `(tactic| walk_at "dg") => `(tactic| first
  | assumption
  | exact LH.gfuns (by assumption)
  | exact LH.gsaid (by assumption)
  | exact LH.gcells (by assumption)
  | exact LH.gfuel (by assumption)
  | exact LH.gend (by assumption)
  | exact LH.gcalls (by assumption)
  | exact LH.gnames (by assumption)
  | exact LH.gwaits (by assumption)
  | exact LH.gworth (by assumption)
  | exact LH.glook (by assumption))
/-- a test that fails, that holds, by itself -/
local macro_rules | `(tactic| walk_at "no") => `(tactic| ((refine tkF rfl ?_); walk_at "g"))
local macro_rules | `(tactic| walk_at "yes") => `(tactic| ((refine tkT rfl ?_); walk_at "g"))
/-- fields, methods -/
local macro_rules | `(tactic| walk_at "g1") => `(tactic| first
  | with_reducible refine' g_fl0 ?_
  | ((with_reducible refine' g_fl ?he ?hl ?_); (case he => walk_at "hp"); (case hl => rfl))
  | with_reducible refine' g_sfl0 ?_
  | with_reducible refine' g_sag0 ?_
  | with_reducible refine' g_mth0 ?_
  | ((with_reducible refine' g_mth ?he ?hl ?_); (case he => walk_at "hp"); (case hl => rfl))
  | with_reducible refine' g_mkI ?_
  | ((with_reducible refine' g_chainG ?ha ?hb ?hc ?_); (case ha => intro R q; walk_at "g"; exact q); (case hb => intro R q; walk_at "g"; exact q); (case hc => intro R q; walk_at "g"; exact q)))
/-! ### the world: cells, fuel, worths -/
def okC (c : Int) : Prop := 0 ≤ c ∧ c < 64
def wF (sa ca : Addr) (fu : Int) : List (Str × V) := [("said", .ref sa), ("cells", .ref ca), ("fuel", .int fu)]
def FtE (K : PySem.W.Frag) (E : XK) (H : Hp) (z : Str) : Prop := ∀ d H1, H d = none → Ch K [] H H1 → H1 d = some (.xd [("word", .str z)]) → E (.ref (He.ga K "Fault")) (some d) H1
def LgE (K : PySem.W.Frag) (E : XK) (H : Hp) : Prop := E (.ref (He.ga K "Long")) none H
def spCell (K : PySem.W.Frag) : Sp := fun vs H Q E => ∃ c : Int, vs = [.int c] ∧ (okC c → Q .non H) ∧ (¬ okC c → FtE K E H "cell")
theorem fn_cell (C : Cn w K mg base) (MF : MkF P w K mg base) : Fn P w K mg base (L2.CX P w) 3 "check_cell" ["cell"] (spCell K) := C.f_check_cell fun fd F => by
  refine F.ok (CX := L2.CX P w) sc_check_cell (fun vs H Q E h => ?_) (fun cdv A outer s H vs Q E hr h => ?_)
  · obtain ⟨c, rfl, _⟩ := h
    rfl
  · obtain ⟨c, rfl, q1, q2⟩ := h
    refine ⟨_, (pss_one (ps_if (pt_not (pt_chain op_le op_lt pe_int (pv 0) (pe_iglob (by rfl) C.i_MANY_CELLS))) (pss_one (ps_rsF MF hr (by omega) rfl (takes_of rfl rfl rfl rfl) (by rfl))) pss_nil)), ?_⟩
    walk_at "go"
    by_cases hc : okC c
    · have h1 := hc.1
      have h2 := hc.2
      refine tkF (by simp [h1, h2]) ?_
      walk_at "g"
      exact q1 hc
    · refine tkT ?_ (q2 hc)
      unfold okC at hc
      simp
      omega
def spStretch (K : PySem.W.Frag) : Sp := fun vs H Q _ => ∃ n : Int, vs = [.int n] ∧ Q (.int (ringI n)) H
theorem fn_stretch (C : Cn w K mg base) : Fn P w K mg base CX0 1 "in_stretch" ["number"] (spStretch K) := C.f_in_stretch fun fd F => by
  refine F.ok (CX := CX0) sc_in_stretch (fun vs H Q E h => ?_) (fun cdv A outer s H vs Q E hr h => ?_)
  · obtain ⟨n, rfl, _⟩ := h
    rfl
  · obtain ⟨n, rfl, q⟩ := h
    refine ⟨_, PSs.nox (pss_one (ps_ret (pe_op op_add (pe_op op_modN (pe_op op_sub (pv 0) (pe_iglob (by rfl) C.i_LEAST)) (pe_iglob (by rfl) C.i_SPAN)) (pe_iglob (by rfl) C.i_LEAST)))), ?_⟩
    walk_at "go"
    have e : (n - -1000000000).fmod 2000000000 + -1000000000 = ringI n := by
      rw [Int.fmod_eq_emod_of_nonneg _ (by decide)]
      unfold ringI
      omega
    rw [e]
    exact q
def spDivided (K : PySem.W.Frag) : Sp := fun vs H Q E => ∃ op a b, vs = [.str (Op.str op), .int a, .int b] ∧ (op = .over ∨ op = .rest) ∧ InR a ∧ InR b ∧ (∀ v, pairI op a b = some v → Q (.int v) H) ∧ (pairI op a b = none → FtE K E H "over")
theorem fn_divided (C : Cn w K mg base) (MF : MkF P w K mg base) : Fn P w K mg base (L2.CX P w) 3 "divided" ["word", "one", "other"] (spDivided K) := C.f_divided fun fd F => by
  have F_in_stretch : Fn P w K mg base CX0 1 "in_stretch" ["number"] (spStretch K) := fn_stretch C
  refine F.ok (CX := L2.CX P w) sc_divided (fun vs H Q E h => ?_) (fun cdv A outer s H vs Q E hr h => ?_)
  · obtain ⟨op, a, b, rfl, _⟩ := h
    rfl
  · obtain ⟨op, a, b, rfl, ho, ha, hb, q1, q2⟩ := h
    refine ⟨_, (pss_cons (ps_if (pt_cmpR op_eq (pv 2) pe_int (nomark _)) (pss_one (ps_rsF MF hr (by omega) rfl (takes_of rfl rfl rfl rfl) (by rfl))) pss_nil)
      (pss_cons (ps_if (pt_cmpR op_eq (pv 0) pe_str (nomark _)) (pss_one (ps_ret (pe_fn F_in_stretch (rmm hr) (by rfl) pass0 (pa_cons (pe_op op_fdivN (pv 1) (pv 2)) pa_nil)))) pss_nil)
      (pss_one (ps_ret (pe_op op_modN (pv 1) (pv 2)))))), ?_⟩
    unfold InR at ha hb
    walk_at "go"
    by_cases hb' : b = 0
    · refine tkT (by rw [hb']; rfl) (q2 ?_)
      rcases ho with rfl | rfl <;> simp [pairI, hb']
    · refine tkF (by simpa using hb') ?_
      walk_at "g"
      have kd : CDivN a b := ⟨hb', by omega⟩
      rcases ho with rfl | rfl
      · refine tkT rfl ?_
        walk_at "g"
        exact ⟨_, rfl, q1 _ (by simp only [pairI, if_neg hb'])⟩
      · refine tkF rfl ?_
        walk_at "g"
        exact q1 _ (by simp only [pairI, if_neg hb'])
def spWorthOf (K : PySem.W.Frag) : Sp := fun vs H Q E => ∃ wd wa, vs = [.str wd, .ref wa] ∧
  ((∃ op a b, wd = Op.str op ∧ H wa = some (.lst (iv [a, b])) ∧ InR a ∧ InR b ∧ (∀ v, pairI op a b = some v → ∀ H', Ch K [] H H' → Q (.int v) H') ∧ (pairI op a b = none → ∀ H', Ch K [] H H' → FtE K E H' "over")) ∨
   ∃ a : Int, wd = "not" ∧ H wa = some (.lst (iv [a])) ∧ Q (.int (if a = 0 then 1 else 0)) H)
theorem fn_worth_of (C : Cn w K mg base) (MF : MkF P w K mg base) : Fn P w K mg base (L2.CX P w) 4 "worth_of" ["word", "worths"] (spWorthOf K) := C.f_worth_of fun fd F => by
  have F_in_stretch : Fn P w K mg base CX0 1 "in_stretch" ["number"] (spStretch K) := fn_stretch C
  have F_divided : Fn P w K mg base (L2.CX P w) 3 "divided" ["word", "one", "other"] (spDivided K) := fn_divided C MF
  refine F.ok (CX := L2.CX P w) sc_worth_of (fun vs H Q E h => ?_) (fun cdv A outer s H vs Q E hr h => ?_)
  · obtain ⟨wd, wa, rfl, _⟩ := h
    rfl
  · obtain ⟨wd, wa, rfl, h⟩ := h
    refine ⟨_, (pss_cons (ps_if (pt_cmpR op_eq (pv 0) pe_str (nomark _)) (pss_one (ps_ret (pe_ifExp (pt_cmpR op_eq (pe_ix ix_list (pv 1) pe_int (fun _ _ => rfl)) pe_int (nomark _)) pe_int pe_int))) pss_nil)
      (pss_cons (ps_asg (pv 1) (pg_unl rfl (pgs_cons (pg_name (i := 2) sc_worth_of.nd rfl (Or.inl rfl)) (pgs_cons (pg_name (i := 3) sc_worth_of.nd rfl (Or.inl rfl)) pgs_nil))))
      (pss_cons (ps_if (pt_cmpR op_in_seq (pv 0) (pe_tupC (pa_cons pe_str (pa_cons pe_str pa_nil))) (by rfl)) (pss_one (ps_ret (pe_fn F_divided (rmm hr) (by rfl) (passes_call (takes_of rfl rfl rfl rfl) (fun _ _ _ _ h => h)) (pa_cons (pv 0) (pa_cons (pv 2) (pa_cons (pv 3) pa_nil)))))) pss_nil)
      (pss_cons (ps_if (pt_cmpR op_eq (pv 0) pe_str (nomark _)) (pss_one (ps_ret (pe_fn F_in_stretch (rmm hr) (by rfl) pass0 (pa_cons (pe_op op_add (pv 2) (pv 3)) pa_nil)))) pss_nil)
      (pss_cons (ps_if (pt_cmpR op_eq (pv 0) pe_str (nomark _)) (pss_one (ps_ret (pe_fn F_in_stretch (rmm hr) (by rfl) pass0 (pa_cons (pe_op op_sub (pv 2) (pv 3)) pa_nil)))) pss_nil)
      (pss_cons (ps_if (pt_cmpR op_eq (pv 0) pe_str (nomark _)) (pss_one (ps_ret (pe_fn F_in_stretch (rmm hr) (by rfl) pass0 (pa_cons (pe_op op_mul (pv 2) (pv 3)) pa_nil)))) pss_nil)
      (pss_cons (ps_if (pt_cmpR op_eq (pv 0) pe_str (nomark _)) (pss_one (ps_ret (pe_ifExp (pt_cmpR op_lt (pv 2) (pv 3) (nomark _)) pe_int pe_int))) pss_nil)
      (pss_one (ps_ret (pe_ifExp (pt_cmpR op_eq (pv 2) (pv 3) (nomark _)) pe_int pe_int)))))))))), ?_⟩
    rcases h with ⟨op, a, b, rfl, hw, ha, hb, q1, q2⟩ | ⟨a, rfl, hw, q⟩
    · have hl : SqL K H wa [.int a, .int b] := SqL.of hw
      have km : CMul a b := .inl ⟨by unfold InR at ha hb; omega, by unfold InR at ha hb; omega⟩
      walk_at "go"
      refine tkF (by cases op <;> rfl) ?_
      walk_at "g"
      refine ⟨wa, _, rfl, hl, rfl, ?_⟩
      walk_at "g"
      refine ⟨szle (by simp), fun p H1 _ e1 c1 => ?_⟩
      walk_at "g"
      cases op with
      | over =>
        refine tkT rfl ?_
        walk_at "g"
        exact ⟨.over, a, b, rfl, .inl rfl, ha, hb, fun v e => q1 v e H1 c1, fun e => q2 e H1 c1⟩
      | rest =>
        refine tkT rfl ?_
        walk_at "g"
        exact ⟨.rest, a, b, rfl, .inr rfl, ha, hb, fun v e => q1 v e H1 c1, fun e => q2 e H1 c1⟩
      | add =>
        refine tkF rfl ?_
        walk_at "g"
        walk_at "yes"
        exact ⟨_, rfl, q1 _ rfl H1 c1⟩
      | take =>
        refine tkF rfl ?_
        walk_at "g"
        walk_at "no"
        walk_at "yes"
        exact ⟨_, rfl, q1 _ rfl H1 c1⟩
      | times =>
        refine tkF rfl ?_
        walk_at "g"
        walk_at "no"
        walk_at "no"
        unfold InR at ha hb
        walk_at "yes"
        exact ⟨_, rfl, q1 _ rfl H1 c1⟩
      | less =>
        refine tkF rfl ?_
        walk_at "g"
        walk_at "no"
        walk_at "no"
        walk_at "no"
        walk_at "yes"
        by_cases h : a < b
        · refine tkT (decide_eq_true h) ?_
          walk_at "g"
          exact q1 _ (by simp [pairI, h]) H1 c1
        · refine tkF (decide_eq_false h) ?_
          walk_at "g"
          exact q1 _ (by simp [pairI, h]) H1 c1
      | same =>
        refine tkF rfl ?_
        walk_at "g"
        walk_at "no"
        walk_at "no"
        walk_at "no"
        walk_at "no"
        by_cases h : a = b
        · refine tkT (by simp [h]) ?_
          walk_at "g"
          exact q1 _ (by simp [pairI, h]) H1 c1
        · refine tkF (by simpa using h) ?_
          walk_at "g"
          exact q1 _ (by simp [pairI, h]) H1 c1
    · have hl : SqL K H wa [.int a] := SqL.of hw
      walk_at "go"
      refine tkT rfl ?_
      walk_at "g"
      by_cases h : a = 0
      · refine tkT (by simp [h]) ?_
        walk_at "g"
        rw [if_pos h] at q
        exact q
      · refine tkF (by simpa using h) ?_
        walk_at "g"
        rw [if_neg h] at q
        exact q
/-! ### the world's methods -/
def spHeld (K : PySem.W.Frag) : Sp := fun vs H Q E => ∃ wd dx sa ca fu c, ∃ cs : List Int, vs = [.ref wd, .int c] ∧ H wd = some (.ins (He.ga K "World") dx (wF sa ca fu)) ∧ H ca = some (.lst (iv cs)) ∧ (okC c → cs.length = 64) ∧
  (okC c → ∀ v, cs[c.toNat]? = some v → Q (.int v) H) ∧ (¬ okC c → FtE K E H "cell")
theorem fn_held (C : Cn w K mg base) (MF : MkF P w K mg base) : Mth P w K mg base (L2.CX P w) 4 (He.ga K "World") "held_in" ["self", "cell"] (spHeld K) := C.f_World_held_in fun fd F => by
  have F_check_cell : Fn P w K mg base (L2.CX P w) 3 "check_cell" ["cell"] (spCell K) := fn_cell C MF
  refine F.ok (CX := L2.CX P w) sc_World_held_in (fun vs H Q E h => ?_) (fun cdv A outer s H vs Q E hr h => ?_)
  · obtain ⟨wd, dx, sa, ca, fu, c, cs, rfl, _⟩ := h
    rfl
  · obtain ⟨wd, dx, sa, ca, fu, c, cs, rfl, hwd, hca, l64, q1, q2⟩ := h
    refine ⟨_, (pss_cons (ps_expr (pe_fn F_check_cell (rmm hr) (by rfl) (passes_call (takes_of rfl rfl rfl rfl) (fun _ _ _ _ h => h)) (pa_cons (pv 1) pa_nil)))
      (pss_one (ps_ret (pe_ix ix_list (pe_fl C.cl_World C.na_World_cells (pv 0)) (pv 1) (fun _ _ => rfl))))), ?_⟩
    walk_at "go"
    refine ⟨c, rfl, fun hc => ?_, q2⟩
    obtain ⟨j, rfl⟩ : ∃ j : Nat, c = (j : Nat) := ⟨c.toNat, by have := hc.1; omega⟩
    have l64 := l64 hc
    have hj : j < cs.length := by have := hc.2; omega
    have hg : cs[j]? = some cs[j] := List.getElem?_eq_getElem hj
    have hat : atI (iv cs) ((j : Nat) : Int) = some (.int cs[j]) := atI_nat (iv_get hg)
    have hl : SqL K H ca (iv cs) := SqL.of hca
    walk_at "g"
    exact q1 hc _ (by rw [Int.toNat_natCast]; exact hg)
def spPutIn (K : PySem.W.Frag) : Sp := fun vs H Q E => ∃ wd dx sa ca fu c v, ∃ cs : List Int, vs = [.ref wd, .int c, .int v] ∧ H wd = some (.ins (He.ga K "World") dx (wF sa ca fu)) ∧ H ca = some (.lst (iv cs)) ∧ (okC c → cs.length = 64) ∧
  (okC c → Q .non (upd H ca (.lst (iv (cs.set c.toNat v))))) ∧ (¬ okC c → FtE K E H "cell")
theorem fn_put_in (C : Cn w K mg base) (MF : MkF P w K mg base) : Mth P w K mg base (L2.CX P w) 4 (He.ga K "World") "put_in" ["self", "cell", "worth"] (spPutIn K) := C.f_World_put_in fun fd F => by
  have F_check_cell : Fn P w K mg base (L2.CX P w) 3 "check_cell" ["cell"] (spCell K) := fn_cell C MF
  refine F.ok (CX := L2.CX P w) sc_World_put_in (fun vs H Q E h => ?_) (fun cdv A outer s H vs Q E hr h => ?_)
  · obtain ⟨wd, dx, sa, ca, fu, c, v, cs, rfl, _⟩ := h
    rfl
  · obtain ⟨wd, dx, sa, ca, fu, c, v, cs, rfl, hwd, hca, l64, q1, q2⟩ := h
    refine ⟨_, (pss_cons (ps_expr (pe_fn F_check_cell (rmm hr) (by rfl) (passes_call (takes_of rfl rfl rfl rfl) (fun _ _ _ _ h => h)) (pa_cons (pv 1) pa_nil)))
      (pss_one (ps_asg (pv 2) (pg_sub (pe_fl C.cl_World C.na_World_cells (pv 0)) (pv 1) set_list)))), ?_⟩
    walk_at "go"
    refine ⟨c, rfl, fun hc => ?_, q2⟩
    obtain ⟨j, rfl⟩ : ∃ j : Nat, c = (j : Nat) := ⟨c.toNat, by have := hc.1; omega⟩
    have l64 := l64 hc
    have hj : j < cs.length := by have := hc.2; omega
    walk_at "g"
    refine setL_nat hca (by rw [iv_len]; exact hj) ?_
    rw [← iv_set]
    exact q1 hc
def spSpend (K : PySem.W.Frag) : Sp := fun vs H Q E => ∃ wd dx sa ca, ∃ fu : Nat, vs = [.ref wd] ∧ H wd = some (.ins (He.ga K "World") dx (wF sa ca (fu : Nat))) ∧
  (∀ f, fu = f + 1 → Q .non (upd H wd (.ins (He.ga K "World") dx (wF sa ca (f : Nat))))) ∧ (fu = 0 → LgE K E H)
theorem fn_spend (C : Cn w K mg base) (ML : MkL P w K mg base) : Mth P w K mg base (L2.CX P w) 3 (He.ga K "World") "spend" ["self"] (spSpend K) := C.f_World_spend fun fd F => by
  refine F.ok (CX := L2.CX P w) sc_World_spend (fun vs H Q E h => ?_) (fun cdv A outer s H vs Q E hr h => ?_)
  · obtain ⟨wd, dx, sa, ca, fu, rfl, _⟩ := h
    rfl
  · obtain ⟨wd, dx, sa, ca, fu, rfl, hwd, q1, q2⟩ := h
    refine ⟨_, (pss_cons (ps_if (pt_cmpR op_eq (pe_fl C.cl_World C.na_World_fuel (pv 0)) pe_int (nomark _)) (pss_one (ps_rsL ML rfl (takes_of rfl rfl rfl rfl) (by rfl))) pss_nil)
      (pss_one (ps_flaug C.cl_World C.na_World_fuel (pv 0) pe_int in_sub))), ?_⟩
    walk_at "go"
    cases fu with
    | zero => exact tkT rfl (q2 rfl)
    | succ f =>
      refine tkF (by simp; omega) ?_
      walk_at "g"
      refine ⟨wd, dx, _, _, rfl, hwd, rfl, ?_⟩
      walk_at "g"
      refine ⟨_, _, rfl, rfl, dx, _, hwd, (by decide : 3 < 1000), ?_⟩
      have e : ((f + 1 : Nat) : Int) - 1 = (f : Nat) := by omega
      have := q1 f rfl
      rw [← e] at this
      exact this
def spSpendCall (K : PySem.W.Frag) : Sp := fun vs H Q E => ∃ wd dx sa ca, ∃ fu : Nat, ∃ n : Nat, vs = [.ref wd, .int (n : Nat)] ∧ H wd = some (.ins (He.ga K "World") dx (wF sa ca (fu : Nat))) ∧
  (n < 60 → ∀ f, fu = f + 1 → Q .non (upd H wd (.ins (He.ga K "World") dx (wF sa ca (f : Nat))))) ∧ (n < 60 → fu = 0 → LgE K E H) ∧ (60 ≤ n → FtE K E H "deep")
theorem fn_spend_call (C : Cn w K mg base) (MF : MkF P w K mg base) (ML : MkL P w K mg base) : Mth P w K mg base (L2.CX P w) 4 (He.ga K "World") "spend_on_call" ["self", "waiting"] (spSpendCall K) := C.f_World_spend_on_call fun fd F => by
  have F_World_spend : Mth P w K mg base (L2.CX P w) 3 (He.ga K "World") "spend" ["self"] (spSpend K) := fn_spend C ML
  refine F.ok (CX := L2.CX P w) sc_World_spend_on_call (fun vs H Q E h => ?_) (fun cdv A outer s H vs Q E hr h => ?_)
  · obtain ⟨wd, dx, sa, ca, fu, n, rfl, _⟩ := h
    rfl
  · obtain ⟨wd, dx, sa, ca, fu, n, rfl, hwd, q1, q2, q3⟩ := h
    refine ⟨_, (pss_cons (ps_if (pt_cmpR op_ge (pv 1) (pe_iglob (by rfl) C.i_MOST_WAITING) (nomark _)) (pss_one (ps_rsF MF hr (by omega) rfl (takes_of rfl rfl rfl rfl) (by rfl))) pss_nil)
      (pss_one (ps_expr (pe_mth0 F_World_spend C.cl_World (rmm hr) (passes_call (takes_of rfl rfl rfl rfl) (fun _ _ _ _ h => h)) (pv 0))))), ?_⟩
    walk_at "go"
    by_cases hn : n < 60
    · refine tkF (by simp; omega) ?_
      walk_at "g"
      exact ⟨wd, dx, sa, ca, fu, rfl, hwd, q1 hn, q2 hn⟩
    · exact tkT (by simp; omega) (q3 (by omega))
/-- what a part that is no call comes to -/
inductive Calm : Pt → List Int → List Int → List Int → Option Int → Prop where
  | num {nm ce n} : Calm (.num n) nm ce [] (some n)
  | name {nm ce i v} (h : nm[i]? = some v) : Calm (.name i) nm ce [] (some v)
  | bin {nm ce op x y a b} (ha : InR a) (hb : InR b) : Calm (.bin op x y) nm ce [a, b] (pairI op a b)
  | nt {nm ce x a} : Calm (.nt x) nm ce [a] (some (if a = 0 then 1 else 0))
  | get {nm ce x a v} (h0 : 0 ≤ a) (h : ce[a.toNat]? = some v) (h6 : ce.length = 64) : Calm (.get x) nm ce [a] (some v)
  | getF {nm ce x a} (h : ¬ okC a) : Calm (.get x) nm ce [a] none
def flt : Pt → Str
  | .get _ => "cell"
  | _ => "over"
def spWorthHere (K : PySem.W.Frag) : Sp := fun vs H Q E => ∃ wd dx sa ca fu rv na wa, ∃ p nm ce ws r, vs = [.ref wd, rv, .ref na, .ref wa] ∧ H wd = some (.ins (He.ga K "World") dx (wF sa ca fu)) ∧ H ca = some (.lst (iv ce)) ∧ Rep K H rv (encP p) ∧
  H na = some (.lst (iv nm)) ∧ H wa = some (.lst (iv ws)) ∧ Calm p nm ce ws r ∧ (∀ v, r = some v → ∀ H', Ch K [] H H' → Q (.int v) H') ∧ (r = none → ∀ H', Ch K [] H H' → FtE K E H' (flt p))
theorem fn_worth_here (C : Cn w K mg base) (MF : MkF P w K mg base) : Mth P w K mg base (L2.CX P w) 5 (He.ga K "World") "worth_here" ["self", "row", "names", "worths"] (spWorthHere K) := C.f_World_worth_here fun fd F => by
  have F_World_held_in : Mth P w K mg base (L2.CX P w) 4 (He.ga K "World") "held_in" ["self", "cell"] (spHeld K) := fn_held C MF
  have F_worth_of : Fn P w K mg base (L2.CX P w) 4 "worth_of" ["word", "worths"] (spWorthOf K) := fn_worth_of C MF
  refine F.ok (CX := L2.CX P w) sc_World_worth_here (fun vs H Q E h => ?_) (fun cdv A outer s H vs Q E hr h => ?_)
  · obtain ⟨wd, dx, sa, ca, fu, rv, na, wa, p, nm, ce, ws, r, rfl, _⟩ := h
    rfl
  · obtain ⟨wd, dx, sa, ca, fu, rv, na, wa, p, nm, ce, ws, r, rfl, hwd, hca, hp, hna, hwa, hc, q1, q2⟩ := h
    refine ⟨_, (pss_cons (ps_set (i := 4) sc_World_worth_here.nd rfl (Or.inl rfl) (pe_ix ix_tup (pv 1) pe_int (fun _ _ => rfl)))
      (pss_cons (ps_if (pt_cmpR op_eq (pv 4) pe_str (nomark _)) (pss_one (ps_ret (pe_ix ix_tup (pv 1) pe_int (fun _ _ => rfl)))) pss_nil)
      (pss_cons (ps_if (pt_cmpR op_eq (pv 4) pe_str (nomark _)) (pss_one (ps_ret (pe_ix ix_list (pv 2) (pe_ix ix_tup (pv 1) pe_int (fun _ _ => rfl)) (fun _ _ => rfl)))) pss_nil)
      (pss_cons (ps_if (pt_cmpR op_eq (pv 4) pe_str (nomark _)) (pss_one (ps_ret (pe_mth F_World_held_in C.cl_World (rmm hr) (passes_call (takes_of rfl rfl rfl rfl) (fun _ _ _ _ h => h)) (pv 0) (pa_cons (pe_ix ix_list (pv 3) pe_int (fun _ _ => rfl)) pa_nil)))) pss_nil)
      (pss_one (ps_ret (pe_fn F_worth_of (rmm hr) (by rfl) (passes_call (takes_of rfl rfl rfl rfl) (fun _ _ _ _ h => h)) (pa_cons (pv 4) (pa_cons (pv 3) pa_nil))))))))), ?_⟩
    have hl : SqL K H wa (iv ws) := SqL.of hwa
    have hnl : SqL K H na (iv nm) := SqL.of hna
    have hp' : Rep K H rv (encT (.p p)) := hp
    obtain ⟨a, us, rfl, hS, rs⟩ := thing1 hp'
    have h0 := atI_nat (j := 0) (List.getElem?_cons_zero (a := V.str (wdT (.p p))) (l := us))
    cases hc with
    | num =>
      obtain ⟨v1, us, rfl, r1, rs⟩ := rs.consI
      obtain rfl := rs.nilI
      obtain rfl := r1.intI
      walk_at "go"
      walk_at "yes"
      exact q1 _ rfl H Ch.refl
    | @name _ _ i v h =>
      obtain ⟨v1, us, rfl, r1, rs⟩ := rs.consI
      obtain rfl := rs.nilI
      obtain rfl := r1.intI
      have hat : atI (iv nm) ((i : Nat) : Int) = some (.int v) := atI_nat (iv_get h)
      walk_at "go"
      walk_at "no"
      walk_at "yes"
      exact q1 _ rfl H Ch.refl
    | get h0 h h6 =>
      walk_at "go"
      walk_at "no"
      walk_at "no"
      walk_at "yes"
      refine ⟨wd, dx, sa, ca, fu, _, ce, rfl, hwd, hca, fun _ => h6, fun _ v e => q1 v (h.symm.trans e) H Ch.refl, fun z => absurd ?_ z⟩
      have := lt_of_some h
      unfold okC
      omega
    | getF h =>
      walk_at "go"
      walk_at "no"
      walk_at "no"
      walk_at "yes"
      exact ⟨wd, dx, sa, ca, fu, _, ce, rfl, hwd, hca, fun z => absurd z h, fun z => absurd z h, fun _ => q2 rfl H Ch.refl⟩
    | @nt _ _ _ b =>
      walk_at "go"
      walk_at "no"
      walk_at "no"
      walk_at "no"
      exact ⟨_, wa, rfl, .inr ⟨b, rfl, hwa, q1 _ rfl H Ch.refl⟩⟩
    | @bin _ _ op _ _ b c ha hb =>
      walk_at "go"
      refine tkF (by cases op <;> rfl) ?_
      walk_at "g"
      refine tkF (by cases op <;> rfl) ?_
      walk_at "g"
      refine tkF (by cases op <;> rfl) ?_
      walk_at "g"
      exact ⟨_, wa, rfl, .inl ⟨op, b, c, rfl, hwa, ha, hb, q1, q2⟩⟩
end
end K3
end

section
set_option maxRecDepth 100000
set_option maxHeartbeats 1000000
open Bq L2
/-- one step of a reading; what is left are side goals and places to think -/
local macro_rules | `(tactic| walk_at "g1") => `(tactic| first
  | with_reducible refine' g_seq ?_ | with_reducible refine' g_asg ?_ | with_reducible refine' g_drop ?_ | with_reducible refine' g_ret ?_ | with_reducible refine' g_ifS ?_ | with_reducible refine' g_asgG ?_
  | ((with_reducible refine' g_var ?hv ?_); (case hv => rfl))
  | with_reducible refine' g_c ?_ | with_reducible refine' g_op ?_ | with_reducible refine' g_un ?_ | with_reducible refine' g_I0 ?_ | with_reducible refine' g_U ?_
  | with_reducible refine' g_test ?_ | with_reducible refine' g_tB ?_ | with_reducible refine Exists.intro _ (And.intro rfl ?_) 
  | ((with_reducible refine' g_andP ?ha ?hb ?_); (case ha => intro R q; walk_at "g"; exact q); (case hb => intro R q; walk_at "g"; exact q))
  | ((with_reducible refine' g_orP ?ha ?hb ?_); (case ha => intro R q; walk_at "g"; exact q); (case hb => intro R q; walk_at "g"; exact q))
  | with_reducible refine' g_and ?_ | with_reducible refine' g_or ?_ | with_reducible refine' g_not ?_
  | with_reducible refine' g_andV ?_ | with_reducible refine' g_orV ?_ | with_reducible refine' g_notV ?_ | with_reducible refine' g_if ?_ | with_reducible refine' g_nil ?_ | with_reducible refine' g_cons ?_
  | with_reducible refine' g_tup ?_ | with_reducible refine' g_lst ?_ | with_reducible refine' g_CB ?_ | with_reducible refine' g_Fn ?_ | with_reducible refine' g_next ?_ | with_reducible refine' g_retN ?_
  | with_reducible refine' g_name ?_ | with_reducible refine' g_sub ?_
  | ((with_reducible refine' g_ixL ?hs ?he ?_); (case hs => walk_at "lk"); (case he => walk_at "at"))
  | ((with_reducible refine' g_ixT ?hs ?he ?_); (case hs => walk_at "lk"); (case he => walk_at "at"))
  | ((with_reducible refine' g_setL ?hs ?he ?_); (case hs => walk_at "hp"); (case he => rfl))
  | ((with_reducible refine' g_app ?hs ?hz ?_); (case hs => walk_at "hp"); (case hz => walk_at "sz"))
  | ((with_reducible refine' ⟨_, _, rfl, Or.inl ?hs, ?_⟩); (case hs => walk_at "lk"))
  | ((with_reducible refine' ⟨_, _, rfl, Or.inr ?hs, ?_⟩); (case hs => walk_at "lk"))
  | with_reducible refine' g_BM ?_ | with_reducible refine' g_BM0 ?_ | ((with_reducible refine' g_tyL ?hs ?_); (case hs => walk_at "lk"))
  | with_reducible refine' g_sl ?_ | with_reducible refine' g_noPart ?_ | with_reducible refine' g_part ?_
  | ((with_reducible refine' g_inT ?hs ?fx ?fs ?_); (case hs => walk_at "lk"); (case fx => rfl); (case fs => rfl))
  | with_reducible refine' g_pair ?_ | with_reducible refine' g_pair0 ?_ | with_reducible refine' g_disp ?_
  | with_reducible refine' g_for ?_ | with_reducible refine' g_tupC ?_ | with_reducible refine' g_lstC ?_ | ((with_reducible refine' g_lens ?_)) | with_reducible refine' g_dg ?_ | with_reducible refine' g_lc ?_ | with_reducible refine' g_rng1 ?_ | with_reducible refine' g_ilist ?_ | with_reducible refine' g_itup ?_
  | ((with_reducible refine' ⟨_, _, rfl, ?hd, ?_⟩); (case hd => walk_at "dg"))
  | ((with_reducible refine' g_eqNil ?hs ?hz ?_); (case hs => walk_at "lk"); (case hz => walk_at "lk"))
  | ((with_reducible refine' g_neNil ?hs ?hz ?_); (case hs => walk_at "lk"); (case hz => walk_at "lk"))
  | with_reducible refine Or.inl ⟨_, rfl, ?_⟩
  | with_reducible refine Or.inr ⟨_, rfl, ?_⟩
  | ((with_reducible refine' g_eq ?hs ?_); (case hs => rfl))
  | ((with_reducible refine' g_ne ?hs ?_); (case hs => rfl))
  | ((with_reducible refine' g_I ?hc ?_); (case hc => walk_at "ar")))
/-- arithmetic's side conditions -/
local macro_rules | `(tactic| walk_at "ar") => `(tactic| (first
  | (show (0 : Int) < _; first | omega | decide) | (show (0 : Int) < _ ∧ _; constructor <;> omega) | (show ¬ (_ : Int) = _; omega) | (show (_ : Int) ≠ _ ∧ _; constructor <;> omega)
  | (show (-(2 ^ 64) < _ ∧ _) ∨ _; (first | (left; constructor <;> omega) | (right; constructor <;> omega))) | (show (0 : Int) ≤ _ ∧ _ ∧ _; refine ⟨by omega, by omega, by decide⟩)))
/-- what stands at an index -/
local macro_rules | `(tactic| walk_at "at") => `(tactic| first | rfl | assumption)
/-- what stands at an address -/
local macro_rules | `(tactic| walk_at "hp") => `(tactic| first | assumption | exact upd_same | ((refine' Eq.trans (upd_ne ?hn) ?hm); (case hm => walk_at "hp"); (case hn => walk_at "ne")))
/-- two places are two -/
local macro_rules | `(tactic| walk_at "ne") => `(tactic| first
  | assumption | exact Ne.symm (by assumption)
  | ((refine' ne_of_none ?ha ?hb); (case hb => assumption); (case ha => walk_at "hp")) | ((refine' Ne.symm (ne_of_none ?ha ?hb)); (case hb => assumption); (case ha => walk_at "hp")))
/-- what a dict tells -/
local macro_rules | `(tactic| walk_at "dg") => `(tactic| first | assumption)
/-- a length -/
local macro_rules | `(tactic| walk_at "sz") => `(tactic| first | (show _ ≤ sizeLine; decide) | (show _ < sizeLine; decide) | assumption | exact szlt (by simp) | exact szle (by simp))
/-- a list or tuple that stands -/
local macro_rules | `(tactic| walk_at "lk") => `(tactic| first | assumption | exact SqL.of (by assumption) | exact SqT.of (by assumption) | exact SqL.of upd_same | exact SqT.of upd_same | (refine' FzL.sq ?hm; (case hm => walk_at "fz")))
/-- a list that nobody writes -/
local macro_rules | `(tactic| walk_at "fz") => `(tactic| first | assumption | ((refine' FzL.uw ?hm ?hx); (case hx => walk_at "hp"); (case hm => walk_at "fz")) | ((refine' FzL.nw ?hm ?hx); (case hx => assumption); (case hm => walk_at "fz")))
/-- as far as it goes by itself -/
local macro_rules | `(tactic| walk_at "g") => `(tactic| repeat walk_at "g1")
/-- the body's reading, its places in short -/
local macro_rules | `(tactic| walk_at "go") => `(tactic| ((try dsimp only [cxOf, Cx.nox, Cx.wish]); walk_at "g"))
namespace K3
open PySem PySem.Spec PyProof.Rows L2 Bq
section
variable {P : Program} {w : World} {K : PySem.W.Frag} {mg : Str → Option Value} {base : Heap}
/-- further steps: dicts written, tuples taken apart -/
local macro_rules | `(tactic| walk_at "g1") => `(tactic| first
  | with_reducible refine' g_sdput ?_
  | ((with_reducible refine' g_gtup ?hs ?hl ?_); (case hs => walk_at "lk"); (case hl => rfl))
  | with_reducible refine' g_gcons ?_
  | with_reducible refine' g_gnil ?_
  | with_reducible refine' And.intro (Eq.refl V.non) ?_
  | with_reducible refine' g_isN ?_
  | ((with_reducible refine' g_chainR ?ha ?hb ?hc ?_); (case ha => intro R q; walk_at "g"; exact q); (case hb => intro R q; walk_at "g"; exact q); (case hc => intro R q; walk_at "g"; exact q))
  | with_reducible refine' g_notN ?_)
/-- what the law's dict tells -/
local macro_rules | `(tactic| walk_at "dg") => `(tactic| first
  | assumption
  | exact LH.gfuns (by assumption)
  | exact LH.gsaid (by assumption)
  | exact LH.gcells (by assumption)
  | exact LH.gfuel (by assumption)
  | exact LH.gend (by assumption)
  | exact LH.gcalls (by assumption)
  | exact LH.gnames (by assumption)
  | exact LH.gwaits (by assumption)
  | exact LH.gworth (by assumption)
  | exact LH.glook (by assumption))
/-- a test that fails, that holds, by itself -/
local macro_rules | `(tactic| walk_at "no") => `(tactic| ((refine tkF rfl ?_); walk_at "g"))
local macro_rules | `(tactic| walk_at "yes") => `(tactic| ((refine tkT rfl ?_); walk_at "g"))
/-- fields, methods -/
local macro_rules | `(tactic| walk_at "g1") => `(tactic| first
  | with_reducible refine' g_fl0 ?_
  | ((with_reducible refine' g_fl ?he ?hl ?_); (case he => walk_at "hp"); (case hl => rfl))
  | with_reducible refine' g_sfl0 ?_
  | with_reducible refine' g_sag0 ?_
  | with_reducible refine' g_mth0 ?_
  | ((with_reducible refine' g_mth ?he ?hl ?_); (case he => walk_at "hp"); (case hl => rfl))
  | with_reducible refine' g_mkI ?_
  | ((with_reducible refine' g_chainG ?ha ?hb ?hc ?_); (case ha => intro R q; walk_at "g"; exact q); (case hb => intro R q; walk_at "g"; exact q); (case hc => intro R q; walk_at "g"; exact q)))
/-! ### frames: what they have to do -/
def IsTd (K : PySem.W.Frag) (H : Hp) (v : V) (e : Bool × Th) : Prop := ∃ p u, v = .ref p ∧ SqT K H p [.bl e.1, u] ∧ Rep K H u (encT e.2)
theorem IsTd.kt {H H' : Hp} (k : Kt K H H') {v : V} {e : Bool × Th} : IsTd K H v e → IsTd K H' v e
  | ⟨p, u, a, b, c⟩ => ⟨p, u, a, k.t _ _ b, c.kt k⟩
inductive Tds (K : PySem.W.Frag) (H : Hp) : List V → List (Bool × Th) → Prop where
  | nil : Tds K H [] []
  | cons {v e vs es} (h : IsTd K H v e) (r : Tds K H vs es) : Tds K H (v :: vs) (e :: es)
theorem Tds.kt {H H' : Hp} (k : Kt K H H') {vs : List V} {es : List (Bool × Th)} (h : Tds K H vs es) : Tds K H' vs es := by
  induction h with
  | nil => exact .nil
  | cons h _ ih => exact .cons (h.kt k) ih
theorem Tds.len {H : Hp} {vs : List V} {es : List (Bool × Th)} (h : Tds K H vs es) : vs.length = es.length := by
  induction h with
  | nil => rfl
  | cons _ _ ih => exact congrArg Nat.succ ih
theorem Tds.append {H : Hp} {vs us : List V} {es fs : List (Bool × Th)} (h : Tds K H vs es) (g : Tds K H us fs) : Tds K H (vs ++ us) (es ++ fs) := by
  induction h with
  | nil => exact g
  | cons h _ ih => exact .cons h ih
theorem Tds.reverse {H : Hp} {vs : List V} {es : List (Bool × Th)} (h : Tds K H vs es) : Tds K H vs.reverse es.reverse := by
  induction h with
  | nil => exact .nil
  | cons h _ ih =>
    rw [List.reverse_cons, List.reverse_cons]
    exact ih.append (.cons h .nil)
theorem Tds.snoc {H : Hp} {vs : List V} {e : Bool × Th} {es : List (Bool × Th)} (h : Tds K H vs (es ++ [e])) : ∃ us v, vs = us ++ [v] ∧ Tds K H us es ∧ IsTd K H v e := by
  have h2 := h.reverse
  rw [List.reverse_append] at h2
  generalize e2 : vs.reverse = ws at h2
  cases h2 with
  | cons hv hr =>
    rename_i v ws'
    refine ⟨ws'.reverse, v, ?_, ?_, hv⟩
    · rw [← List.reverse_reverse vs, e2, List.reverse_cons]
    · have := hr.reverse
      simpa using this
theorem encB_map : ∀ b : List Dd, encB b = (b.map Th.d).map encT
  | [] => rfl
  | d :: r => by rw [encB, encB_map r]; rfl
theorem encPs_map : ∀ b : List Pt, encPs b = (b.map Th.p).map encT
  | [] => rfl
  | d :: r => by rw [encPs, encPs_map r]; rfl
def lay (ts : List Th) : List (Bool × Th) := ts.map fun t => (false, t)
theorem lay_asD (b : List Dd) : lay (b.map Th.d) = asD b := by unfold lay asD; rw [List.map_map]; rfl
theorem lay_asP (b : List Pt) : lay (b.map Th.p) = asP b := by unfold lay asP; rw [List.map_map]; rfl
def fF (na ta wa : Addr) : List (Str × V) := [("names", .ref na), ("todo", .ref ta), ("worths", .ref wa)]
def spLay (K : PySem.W.Frag) : Sp := fun vs H Q _ => ∃ fa fx na ta wa a, ∃ vs0 xs : List V, ∃ ts : List Th, vs = [.ref fa, .ref a] ∧ H fa = some (.ins (He.ga K "Frame") fx (fF na ta wa)) ∧ H ta = some (.lst vs0) ∧
  ((SqL K H a xs ∧ a ≠ ta) ∨ SqT K H a xs) ∧ Reps K H xs (ts.map encT) ∧ vs0.length + ts.length ≤ 9000000 ∧ ∀ H' us, Ch K [ta] H H' → H' ta = some (.lst (vs0 ++ us)) → Tds K H' us (lay ts).reverse → Q .non H'
theorem lay_rev {ts : List Th} {i : Nat} (h : i < ts.length) (e : ts[ts.length - 1 - i]? = some t) : (lay ts).reverse.take (i + 1) = (lay ts).reverse.take i ++ [(false, t)] := by
  rw [List.take_add_one, List.getElem?_reverse (by unfold lay; rw [List.length_map]; exact h)]
  unfold lay
  rw [List.length_map, List.getElem?_map, e]
  rfl
theorem fn_lay (C : Cn w K mg base) : Mth P w K mg base CX0 2 (He.ga K "Frame") "lay_ahead" ["self", "things"] (spLay K) := C.f_Frame_lay_ahead fun fd F => by
  refine F.ok (CX := CX0) sc_Frame_lay_ahead (fun vs H Q E h => ?_) (fun cdv A outer s H vs Q E hr h => ?_)
  · obtain ⟨fa, fx, na, ta, wa, a, vs0, xs, ts, rfl, _⟩ := h
    rfl
  · obtain ⟨fa, fx, na, ta, wa, a, vs0, xs, ts, rfl, hfa, hta, hxs, hr0, hz, q⟩ := h
    refine ⟨_, PSs.nox (pss_one (ps_for PassesOwn.never rfl (RT.pi_revA (by rfl) (C.m_reversed) (pv 1)) (pg_name (i := 2) sc_Frame_lay_ahead.nd rfl (Or.inl rfl)) (pss_one (ps_expr (pe_bm PySem.F.plainAttrs_list PySem.F.slot_list_append PySem.F.type_list_append mt_append (pe_fl C.cl_Frame C.na_Frame_todo (pv 0)) (pa_cons (pe_tupC (pa_cons pe_bl (pa_cons (pv 2) pa_nil))) pa_nil)))))), ?_⟩
    have ll : xs.length = ts.length := by rw [hr0.len, List.length_map]
    have hne : fa ≠ ta := ne_of hfa hta (by intro z; cases z)
    have body : ∀ (i : Nat) (x : V) (H1 : Hp) (us : List V), xs[xs.length - 1 - i]? = some x → i < xs.length → Ch K [ta] H H1 → H1 ta = some (.lst (vs0 ++ us)) → Tds K H1 us ((lay ts).reverse.take i) →
        ∀ p H2, H1 p = none → H2 p = some (.tup [.bl false, x]) → Ch K [] H1 H2 → (vs0 ++ us).length < sizeLine ∧ H2 ta = some (.lst (vs0 ++ us)) ∧ Ch K [ta] H (upd H2 ta (.lst (vs0 ++ us ++ [.ref p]))) ∧ Tds K (upd H2 ta (.lst (vs0 ++ us ++ [.ref p]))) (us ++ [.ref p]) ((lay ts).reverse.take (i + 1)) := by
      intro i x H1 us hx hi c1 e1 t1 p H2 np ep c2
      have e2 := c2.up _ _ e1 (by simp)
      have c3 : Ch K [ta] H2 (upd H2 ta (.lst (vs0 ++ us ++ [.ref p]))) := Ch.wr e2 rfl (by simp)
      obtain ⟨t, ht, rt⟩ := hr0.get hx
      obtain ⟨th, hth, rfl⟩ : ∃ th, ts[ts.length - 1 - i]? = some th ∧ encT th = t := by
        rw [List.getElem?_map, ll] at ht
        cases e : ts[ts.length - 1 - i]? with
        | none => rw [e] at ht; cases ht
        | some f => rw [e] at ht; exact ⟨f, rfl, Option.some.inj ht⟩
      have lt := t1.len
      rw [List.length_take, List.length_reverse] at lt
      refine ⟨?_, e2, c1.trans (Ch.trans (c2.mono (by simp)) c3), ?_⟩
      · rw [List.length_append, sizeLine_eq]
        unfold lay at lt
        rw [List.length_map] at lt
        omega
      · rw [lay_rev (by omega) hth]
        refine (t1.kt (c2.kt.trans c3.kt)).append (.cons ⟨p, x, rfl, c3.kt.t _ _ (SqT.of ep), rt.kt (c1.kt.trans (c2.kt.trans c3.kt))⟩ .nil)
    walk_at "go"
    unfold RT.iRevA
    walk_at "g"
    have t0 : Tds K H [] ((lay ts).reverse.take 0) := .nil
    have e0 : H ta = some (.lst (vs0 ++ [])) := by rw [List.append_nil]; exact hta
    rcases hxs with ⟨hq, nea⟩ | hq
    · refine ⟨a, xs, rfl, .inl ⟨hq, ?_⟩⟩
      refine RT.for_Itv (fun i σ H' => ∃ o, σ = [some (.ref fa), some (.ref a), o] ∧ ∃ us, Ch K [ta] H H' ∧ H' ta = some (.lst (vs0 ++ us)) ∧ Tds K H' us ((lay ts).reverse.take i)) ⟨none, rfl, [], Ch.refl, e0, t0⟩ (fun i σ H' ⟨_, _, _, c, _⟩ => c.sqL hq (by simpa using nea)) ?_ ?_
      · rintro i x _ H1 hi hx ⟨o, rfl, us, c1, e1, t1⟩
        walk_at "g"
        have hfa1 := c1.up _ _ hfa (by simpa using hne)
        walk_at "g"
        refine ⟨szle (by simp), fun p H2 np ep c2 => ?_⟩
        obtain ⟨b1, b2, b3, b4⟩ := body i x H1 us hx hi c1 e1 t1 p H2 np ep c2
        unfold tNil
        refine g_app b2 b1 ?_
        refine ⟨_, rfl, us ++ [.ref p], b3, ?_, b4⟩
        rw [upd_same, List.append_assoc]
      · rintro _ H1 ⟨o, rfl, us, c1, e1, t1⟩
        refine q H1 us c1 e1 ?_
        rw [ll, List.take_of_length_le (by unfold lay; simp)] at t1
        exact t1
    · refine ⟨a, xs, rfl, .inr ⟨hq, ?_⟩⟩
      refine RT.for_ItvT (fun i σ H' => ∃ o, σ = [some (.ref fa), some (.ref a), o] ∧ ∃ us, Ch K [ta] H H' ∧ H' ta = some (.lst (vs0 ++ us)) ∧ Tds K H' us ((lay ts).reverse.take i)) ⟨none, rfl, [], Ch.refl, e0, t0⟩ (fun i σ H' ⟨_, _, _, c, _⟩ => c.sqT hq) ?_ ?_
      · rintro i x _ H1 hi hx ⟨o, rfl, us, c1, e1, t1⟩
        walk_at "g"
        have hfa1 := c1.up _ _ hfa (by simpa using hne)
        walk_at "g"
        refine ⟨szle (by simp), fun p H2 np ep c2 => ?_⟩
        obtain ⟨b1, b2, b3, b4⟩ := body i x H1 us hx hi c1 e1 t1 p H2 np ep c2
        unfold tNil
        refine g_app b2 b1 ?_
        refine ⟨_, rfl, us ++ [.ref p], b3, ?_, b4⟩
        rw [upd_same, List.append_assoc]
      · rintro _ H1 ⟨o, rfl, us, c1, e1, t1⟩
        refine q H1 us c1 e1 ?_
        rw [ll, List.take_of_length_le (by unfold lay; simp)] at t1
        exact t1
theorem cutV_from (ts : List V) (k : Nat) : cutV ts (some (k : Int)) none = ts.drop k := by
  unfold cutV
  rw [HT.sIx_none, HT.sIx_nat]
  by_cases hk : k ≤ ts.length
  · rw [Nat.min_eq_left hk, List.take_of_length_le]
    rw [List.length_drop]
    exact Nat.le_refl _
  · rw [Nat.min_eq_right (by omega), List.drop_eq_nil_of_le (by omega : ts.length ≤ k), List.drop_eq_nil_of_le (Nat.le_refl _), List.take_nil]
def spTake (K : PySem.W.Frag) : Sp := fun vs H Q _ => ∃ fa fx na ta wa, ∃ l1 l2 : List Int, vs = [.ref fa, .int (l2.length : Nat)] ∧ H fa = some (.ins (He.ga K "Frame") fx (fF na ta wa)) ∧ H wa = some (.lst (iv (l1 ++ l2))) ∧ (l1 ++ l2).length ≤ 9000000 ∧
  ∀ H' p, Ch K [wa] H H' → H' wa = some (.lst (iv l1)) → H p = none → H' p = some (.lst (iv l2)) → Q (.ref p) H'
theorem fn_take (C : Cn w K mg base) : Mth P w K mg base CX0 2 (He.ga K "Frame") "take_worths" ["self", "many"] (spTake K) := C.f_Frame_take_worths fun fd F => by
  refine F.ok (CX := CX0) sc_Frame_take_worths (fun vs H Q E h => ?_) (fun cdv A outer s H vs Q E hr h => ?_)
  · obtain ⟨fa, fx, na, ta, wa, l1, l2, rfl, _⟩ := h
    rfl
  · obtain ⟨fa, fx, na, ta, wa, l1, l2, rfl, hfa, hwa, hz, q⟩ := h
    refine ⟨_, PSs.nox (pss_cons (ps_set (i := 2) sc_Frame_take_worths.nd rfl (Or.inl rfl) (pe_op op_sub (pe_callB call_len_seq (by rfl) (C.m_len) PySem.boot_len (pa_cons (pe_fl C.cl_Frame C.na_Frame_worths (pv 0)) pa_nil)) (pv 1)))
      (pss_cons (ps_set (i := 3) sc_Frame_take_worths.nd rfl (Or.inl rfl) (pe_slice sl_list (by exact (pe_fl C.cl_Frame C.na_Frame_worths (pv 0))) (po_some (pv 2)) po_none))
      (pss_cons (ps_delCut (pe_fl C.cl_Frame C.na_Frame_worths (pv 0)) (po_some (pv 2)))
      (pss_one (ps_ret (pv 3)))))), ?_⟩
    have hl : SqL K H wa (iv (l1 ++ l2)) := SqL.of hwa
    walk_at "go"
    have e : ((iv (l1 ++ l2)).length : Int) - (l2.length : Nat) = (l1.length : Nat) := by
      rw [iv_len, List.length_append]
      omega
    rw [e]
    refine ⟨wa, _, rfl, hl, fun p np => ?_⟩
    have e2 : cutV (iv (l1 ++ l2)) (some ((l1.length : Nat) : Int)) none = iv l2 := by
      rw [cutV_from, iv_app, List.drop_append_of_le_length (by rw [iv_len]; exact Nat.le_refl _), List.drop_of_length_le (by rw [iv_len]; exact Nat.le_refl _), List.nil_append]
    rw [e2]
    have c1 : Ch K [] H (upd H p (.lst (iv l2))) := Ch.new np
    have e1 : (upd H p (.lst (iv l2))) p = some (.lst (iv l2)) := upd_same
    generalize upd H p (.lst (iv l2)) = H1 at c1 e1 ⊢
    have hfa1 := c1.up _ _ hfa (by simp)
    have hwa1 := c1.up _ _ hwa (by simp)
    walk_at "g"
    unfold tDelCut
    walk_at "g"
    refine ⟨wa, _, l1.length, rfl, rfl, hwa1, by rw [iv_len, List.length_append]; omega, ?_⟩
    have e3 : (iv (l1 ++ l2)).take l1.length = iv l1 := by
      rw [iv_app, List.take_append_of_le_length (by rw [iv_len]; exact Nat.le_refl _), List.take_of_length_le (by rw [iv_len]; exact Nat.le_refl _)]
    rw [e3]
    have nw : p ≠ wa := (ne_of_none hwa np).symm
    walk_at "g"
    exact q _ p ((c1.mono (by simp)).trans (Ch.wr hwa1 rfl (by simp))) upd_same np (by rw [upd_ne nw]; exact e1)
theorem perm3 {α : Type} (a b c : α) (S : List α) : (c :: b :: a :: S).Perm (a :: b :: c :: S) := (List.reverse_perm [a, b, c]).append_right S
theorem perm4 {α : Type} (a b c d : α) (S : List α) : (d :: c :: b :: a :: S).Perm (a :: b :: c :: d :: S) := (List.reverse_perm [a, b, c, d]).append_right S
def spFrame (K : PySem.W.Frag) : Sp := fun vs H Q _ => ∃ Hb S fa fx fv ha, ∃ f : Fu, ∃ ws : List Int, vs = [.ref fa, fv, .ref ha] ∧ Own K Hb H ((fa, .ins (He.ga K "Frame") fx []) :: S) ∧ Rep K H fv (encF f) ∧ H ha = some (.lst (iv ws)) ∧ ws.length = f.ps ∧ f.ps ≤ f.nm ∧ f.nm ≤ 8 ∧
  f.body.length ≤ 8000000 ∧ ∀ H' na ta wa tvs, Kt K H H' → Own K Hb H' ((fa, .ins (He.ga K "Frame") fx (fF na ta wa)) :: (na, .lst (iv (handed f ws))) :: (ta, .lst tvs) :: (wa, .lst []) :: S) → Tds K H' tvs (asD f.body).reverse → Q .non H'
theorem fn_frame (C : Cn w K mg base) : Ini P w K mg base CX0 3 "Frame" ["self", "fun", "handed"] (spFrame K) := C.f_Frame_init fun fd F => by
  have F_Frame_lay_ahead : Mth P w K mg base CX0 2 (He.ga K "Frame") "lay_ahead" ["self", "things"] (spLay K) := fn_lay C
  refine F.ok (CX := CX0) sc_Frame_init (fun vs H Q E h => ?_) (fun cdv A outer s H vs Q E hr h => ?_)
  · obtain ⟨Hb, S, fa, fx, fv, ha, f, ws, rfl, _⟩ := h
    rfl
  · obtain ⟨Hb, S, fa, fx, fv, ha, f, ws, rfl, own, rep, hha, lw, hpn, hn8, hb, q⟩ := h
    refine ⟨_, PSs.nox (pss_cons (ps_asg (pv 1) (pg_tup rfl (pgs_cons (pg_name (i := 3) sc_Frame_init.nd rfl (Or.inl rfl)) (pgs_cons (pg_name (i := 4) sc_Frame_init.nd rfl (Or.inl rfl)) (pgs_cons (pg_name (i := 5) sc_Frame_init.nd rfl (Or.inl rfl)) pgs_nil)))))
      (pss_cons (ps_fl C.cl_Frame C.na_Frame_names (pv 0) (pe_op op_catL (pv 2) (pe_op op_repL (pe_lstC (pa_cons pe_int pa_nil)) (pe_op op_sub (pv 4) (pe_callB call_len_seq (by rfl) (C.m_len) PySem.boot_len (pa_cons (pv 2) pa_nil))))))
      (pss_cons (ps_fl C.cl_Frame C.na_Frame_todo (pv 0) (pe_lstC pa_nil))
      (pss_cons (ps_fl C.cl_Frame C.na_Frame_worths (pv 0) (pe_lstC pa_nil))
      (pss_one (ps_expr (pe_mth F_Frame_lay_ahead C.cl_Frame (rmm hr) pass0 (pv 0) (pa_cons (pv 5) pa_nil)))))))), ?_⟩
    obtain ⟨ga, gvs, rfl, hga, rgs⟩ := rep.tupI
    obtain ⟨g0, gr, rfl, r0, rgs⟩ := rgs.consI
    obtain ⟨g1, gr, rfl, r1, rgs⟩ := rgs.consI
    obtain ⟨g2, gr, rfl, r2, rgs⟩ := rgs.consI
    obtain rfl := rgs.nilI
    obtain rfl := r0.intI
    obtain rfl := r1.intI
    have hfa : H fa = some (.ins (He.ga K "Frame") fx []) := own.at_ (l1 := [])
    have hhl : SqL K H ha (iv ws) := SqL.of hha
    walk_at "go"
    refine ⟨szle (by simp), fun p H1 np ep c1 => ?_⟩
    have hha1 := c1.up _ _ hha (by simp)
    have hhl1 : SqL K H1 ha (iv ws) := SqL.of hha1
    walk_at "g"
    rw [iv_len]
    have enm : ((f.nm : Nat) : Int) - (ws.length : Nat) = ((f.nm - f.ps : Nat) : Int) := by omega
    rw [enm]
    refine ⟨p, _, _, rfl, rfl, ep, by omega, by omega, szle (by simp; omega), fun p2 H2 n2 e2 c2 => ?_⟩
    rw [Int.toNat_natCast] at e2
    have e2' : H2 p2 = some (.lst (iv (List.replicate (f.nm - f.ps) 0))) := e2.trans (congrArg (fun l => some (HO.lst l)) (rep_flat _))
    refine ⟨ha, p2, _, _, rfl, rfl, c2.up _ _ hha1 (by simp), e2', szle (by rw [iv_len, iv_len, List.length_replicate]; omega), fun na H3 n3 e3 c3 => ?_⟩
    have O3 : Own K Hb H3 ((na, .lst (iv (handed f ws))) :: (fa, .ins (He.ga K "Frame") fx []) :: S) := ((own.ch c1).ch c2).new n3 c3 (by rw [e3, ← iv_app]; rfl)
    have k3 := (c1.trans (c2.trans c3)).kt
    walk_at "g"
    refine g_sfl (fs' := [("names", .ref na)]) (O3.at_ (l1 := [_])) (by simp) rfl ?_
    have O4 : Own K Hb (upd H3 fa (.ins (He.ga K "Frame") fx [("names", .ref na)])) ((na, .lst (iv (handed f ws))) :: (fa, .ins (He.ga K "Frame") fx [("names", .ref na)]) :: S) := O3.wr (l1 := [_]) rfl
    have k4 : Kt K H (upd H3 fa (.ins (He.ga K "Frame") fx [("names", .ref na)])) := k3.trans (Ch.wr (S := [fa]) (O3.at_ (l1 := [_])) rfl (by simp)).kt
    generalize upd H3 fa (.ins (He.ga K "Frame") fx [("names", .ref na)]) = H4 at O4 k4 ⊢
    walk_at "g"
    refine ⟨szle (by simp), fun ta H5 n5 e5 c5 => ?_⟩
    have O5 := O4.new n5 c5 e5
    walk_at "g"
    refine g_sfl (fs' := [("names", .ref na), ("todo", .ref ta)]) (O5.at_ (l1 := [_, _])) (by simp) rfl ?_
    have O6 : Own K Hb (upd H5 fa (.ins (He.ga K "Frame") fx [("names", .ref na), ("todo", .ref ta)])) ((ta, .lst []) :: (na, .lst (iv (handed f ws))) :: (fa, .ins (He.ga K "Frame") fx [("names", .ref na), ("todo", .ref ta)]) :: S) := O5.wr (l1 := [_, _]) rfl
    have k6 : Kt K H (upd H5 fa (.ins (He.ga K "Frame") fx [("names", .ref na), ("todo", .ref ta)])) := k4.trans (c5.kt.trans (Ch.wr (S := [fa]) (O5.at_ (l1 := [_, _])) rfl (by simp)).kt)
    generalize upd H5 fa (.ins (He.ga K "Frame") fx [("names", .ref na), ("todo", .ref ta)]) = H6 at O6 k6 ⊢
    walk_at "g"
    refine ⟨szle (by simp), fun wa H7 n7 e7 c7 => ?_⟩
    have O7 := O6.new n7 c7 e7
    walk_at "g"
    refine g_sfl (fs' := fF na ta wa) (O7.at_ (l1 := [_, _, _])) (by simp) rfl ?_
    have O8 : Own K Hb (upd H7 fa (.ins (He.ga K "Frame") fx (fF na ta wa))) ((wa, .lst []) :: (ta, .lst []) :: (na, .lst (iv (handed f ws))) :: (fa, .ins (He.ga K "Frame") fx (fF na ta wa)) :: S) := O7.wr (l1 := [_, _, _]) rfl
    have k8 : Kt K H (upd H7 fa (.ins (He.ga K "Frame") fx (fF na ta wa))) := k6.trans (c7.kt.trans (Ch.wr (S := [fa]) (O7.at_ (l1 := [_, _, _])) rfl (by simp)).kt)
    generalize upd H7 fa (.ins (He.ga K "Frame") fx (fF na ta wa)) = H8 at O8 k8 ⊢
    have hfa8 := O8.at_ (l1 := [_, _, _])
    have hta8 := O8.at_ (l1 := [_])
    obtain ⟨ba, bvs, rfl, hba, rb⟩ := (r2.kt k8).tupI
    walk_at "g"
    have eb : encB f.body = (f.body.map Th.d).map encT := by
      clear hb
      induction f.body with
      | nil => rfl
      | cons d r ih => rw [encB, ih]; rfl
    refine ⟨fa, fx, na, ta, wa, ba, [], bvs, f.body.map Th.d, rfl, hfa8, hta8, .inr hba, by rw [← eb]; exact rb, by rw [List.length_map]; show 0 + _ ≤ _; omega, fun H9 us c9 e9 t9 => ?_⟩
    have O9 := O8.set (l1 := [_]) c9 e9
    walk_at "g"
    have el : lay (f.body.map Th.d) = asD f.body := by unfold lay asD; rw [List.map_map]; rfl
    rw [el] at t9
    exact q H9 na ta wa us (k8.trans c9.kt) (O9.perm (perm4 _ _ _ _ S)) t9
def spWorld (K : PySem.W.Frag) : Sp := fun vs H Q _ => ∃ Hb S wd wx, ∃ fu : Nat, vs = [.ref wd, .int (fu : Nat)] ∧ Own K Hb H ((wd, .ins (He.ga K "World") wx []) :: S) ∧
  ∀ H' sa ca, Kt K H H' → Own K Hb H' ((wd, .ins (He.ga K "World") wx (wF sa ca (fu : Nat))) :: (sa, .lst []) :: (ca, .lst (iv (List.replicate 64 0))) :: S) → Q .non H'
theorem fn_world (C : Cn w K mg base) : Ini P w K mg base CX0 2 "World" ["self", "fuel"] (spWorld K) := C.f_World_init fun fd F => by
  refine F.ok (CX := CX0) sc_World_init (fun vs H Q E h => ?_) (fun cdv A outer s H vs Q E hr h => ?_)
  · obtain ⟨Hb, S, wd, wx, fu, rfl, _⟩ := h
    rfl
  · obtain ⟨Hb, S, wd, wx, fu, rfl, own, q⟩ := h
    refine ⟨_, PSs.nox (pss_cons (ps_fl C.cl_World C.na_World_said (pv 0) (pe_lstC pa_nil))
      (pss_cons (ps_fl C.cl_World C.na_World_cells (pv 0) (pe_op op_repL (pe_lstC (pa_cons pe_int pa_nil)) (pe_iglob (by rfl) C.i_MANY_CELLS)))
      (pss_one (ps_fl C.cl_World C.na_World_fuel (pv 0) (pv 1))))), ?_⟩
    walk_at "go"
    refine ⟨szle (by simp), fun sa H1 n1 e1 c1 => ?_⟩
    have O1 := own.new n1 c1 e1
    walk_at "g"
    refine g_sfl (fs' := [("said", .ref sa)]) (O1.at_ (l1 := [_])) (by simp) rfl ?_
    have O2 : Own K Hb (upd H1 wd (.ins (He.ga K "World") wx [("said", .ref sa)])) ((sa, .lst []) :: (wd, .ins (He.ga K "World") wx [("said", .ref sa)]) :: S) := O1.wr (l1 := [_]) rfl
    have k2 : Kt K H (upd H1 wd (.ins (He.ga K "World") wx [("said", .ref sa)])) := c1.kt.trans (Ch.wr (S := [wd]) (O1.at_ (l1 := [_])) rfl (by simp)).kt
    generalize upd H1 wd (.ins (He.ga K "World") wx [("said", .ref sa)]) = H2 at O2 k2 ⊢
    walk_at "g"
    refine ⟨szle (by simp), fun p H3 n3 e3 c3 => ?_⟩
    walk_at "g"
    refine ⟨p, _, _, rfl, rfl, e3, by decide, by decide, szle (by simp), fun ca H4 n4 e4 c4 => ?_⟩
    have e4' : H4 ca = some (.lst (iv (List.replicate 64 0))) := e4.trans (congrArg (fun l => some (HO.lst l)) (rep_flat 64))
    have O4 := (O2.ch c3).new n4 c4 e4'
    have k4 := k2.trans (c3.trans c4).kt
    walk_at "g"
    refine g_sfl (fs' := [("said", .ref sa), ("cells", .ref ca)]) (O4.at_ (l1 := [_, _])) (by simp) rfl ?_
    have O5 : Own K Hb (upd H4 wd (.ins (He.ga K "World") wx [("said", .ref sa), ("cells", .ref ca)])) ((ca, .lst (iv (List.replicate 64 0))) :: (sa, .lst []) :: (wd, .ins (He.ga K "World") wx [("said", .ref sa), ("cells", .ref ca)]) :: S) := O4.wr (l1 := [_, _]) rfl
    have k5 : Kt K H (upd H4 wd (.ins (He.ga K "World") wx [("said", .ref sa), ("cells", .ref ca)])) := k4.trans (Ch.wr (S := [wd]) (O4.at_ (l1 := [_, _])) rfl (by simp)).kt
    generalize upd H4 wd (.ins (He.ga K "World") wx [("said", .ref sa), ("cells", .ref ca)]) = H5 at O5 k5 ⊢
    walk_at "g"
    refine g_sfl (fs' := wF sa ca (fu : Nat)) (O5.at_ (l1 := [_, _])) (by simp) rfl ?_
    have O6 : Own K Hb (upd H5 wd (.ins (He.ga K "World") wx (wF sa ca (fu : Nat)))) ((ca, .lst (iv (List.replicate 64 0))) :: (sa, .lst []) :: (wd, .ins (He.ga K "World") wx (wF sa ca (fu : Nat))) :: S) := O5.wr (l1 := [_, _]) rfl
    have k6 : Kt K H (upd H5 wd (.ins (He.ga K "World") wx (wF sa ca (fu : Nat)))) := k5.trans (Ch.wr (S := [wd]) (O5.at_ (l1 := [_, _])) rfl (by simp)).kt
    exact q _ sa ca k6 (O6.perm (perm3 _ _ _ S))
end
end K3
end

section
set_option maxRecDepth 100000
set_option maxHeartbeats 1000000
open Bq L2
/-- one step of a reading; what is left are side goals and places to think -/
local macro_rules | `(tactic| walk_at "g1") => `(tactic| first
  | with_reducible refine' g_seq ?_ | with_reducible refine' g_asg ?_ | with_reducible refine' g_drop ?_ | with_reducible refine' g_ret ?_ | with_reducible refine' g_ifS ?_ | with_reducible refine' g_asgG ?_
  | ((with_reducible refine' g_var ?hv ?_); (case hv => rfl))
  | with_reducible refine' g_c ?_ | with_reducible refine' g_op ?_ | with_reducible refine' g_un ?_ | with_reducible refine' g_I0 ?_ | with_reducible refine' g_U ?_
  | with_reducible refine' g_test ?_ | with_reducible refine' g_tB ?_ | with_reducible refine Exists.intro _ (And.intro rfl ?_) 
  | ((with_reducible refine' g_andP ?ha ?hb ?_); (case ha => intro R q; walk_at "g"; exact q); (case hb => intro R q; walk_at "g"; exact q))
  | ((with_reducible refine' g_orP ?ha ?hb ?_); (case ha => intro R q; walk_at "g"; exact q); (case hb => intro R q; walk_at "g"; exact q))
  | with_reducible refine' g_and ?_ | with_reducible refine' g_or ?_ | with_reducible refine' g_not ?_
  | with_reducible refine' g_andV ?_ | with_reducible refine' g_orV ?_ | with_reducible refine' g_notV ?_ | with_reducible refine' g_if ?_ | with_reducible refine' g_nil ?_ | with_reducible refine' g_cons ?_
  | with_reducible refine' g_tup ?_ | with_reducible refine' g_lst ?_ | with_reducible refine' g_CB ?_ | with_reducible refine' g_Fn ?_ | with_reducible refine' g_next ?_ | with_reducible refine' g_retN ?_
  | with_reducible refine' g_name ?_ | with_reducible refine' g_sub ?_
  | ((with_reducible refine' g_ixL ?hs ?he ?_); (case hs => walk_at "lk"); (case he => walk_at "at"))
  | ((with_reducible refine' g_ixT ?hs ?he ?_); (case hs => walk_at "lk"); (case he => walk_at "at"))
  | ((with_reducible refine' g_setL ?hs ?he ?_); (case hs => walk_at "hp"); (case he => rfl))
  | ((with_reducible refine' g_app ?hs ?hz ?_); (case hs => walk_at "hp"); (case hz => walk_at "sz"))
  | ((with_reducible refine' ⟨_, _, rfl, Or.inl ?hs, ?_⟩); (case hs => walk_at "lk"))
  | ((with_reducible refine' ⟨_, _, rfl, Or.inr ?hs, ?_⟩); (case hs => walk_at "lk"))
  | with_reducible refine' g_BM ?_ | with_reducible refine' g_BM0 ?_ | ((with_reducible refine' g_tyL ?hs ?_); (case hs => walk_at "lk"))
  | with_reducible refine' g_sl ?_ | with_reducible refine' g_noPart ?_ | with_reducible refine' g_part ?_
  | ((with_reducible refine' g_inT ?hs ?fx ?fs ?_); (case hs => walk_at "lk"); (case fx => rfl); (case fs => rfl))
  | with_reducible refine' g_pair ?_ | with_reducible refine' g_pair0 ?_ | with_reducible refine' g_disp ?_
  | with_reducible refine' g_for ?_ | with_reducible refine' g_tupC ?_ | with_reducible refine' g_lstC ?_ | ((with_reducible refine' g_lens ?_)) | with_reducible refine' g_dg ?_ | with_reducible refine' g_lc ?_ | with_reducible refine' g_rng1 ?_ | with_reducible refine' g_ilist ?_ | with_reducible refine' g_itup ?_
  | ((with_reducible refine' ⟨_, _, rfl, ?hd, ?_⟩); (case hd => walk_at "dg"))
  | ((with_reducible refine' g_eqNil ?hs ?hz ?_); (case hs => walk_at "lk"); (case hz => walk_at "lk"))
  | ((with_reducible refine' g_neNil ?hs ?hz ?_); (case hs => walk_at "lk"); (case hz => walk_at "lk"))
  | with_reducible refine Or.inl ⟨_, rfl, ?_⟩
  | with_reducible refine Or.inr ⟨_, rfl, ?_⟩
  | ((with_reducible refine' g_eq ?hs ?_); (case hs => rfl))
  | ((with_reducible refine' g_ne ?hs ?_); (case hs => rfl))
  | ((with_reducible refine' g_I ?hc ?_); (case hc => walk_at "ar")))
/-- arithmetic's side conditions -/
local macro_rules | `(tactic| walk_at "ar") => `(tactic| (first
  | (show (0 : Int) < _; first | omega | decide) | (show (0 : Int) < _ ∧ _; constructor <;> omega) | (show ¬ (_ : Int) = _; omega) | (show (_ : Int) ≠ _ ∧ _; constructor <;> omega)
  | (show (-(2 ^ 64) < _ ∧ _) ∨ _; (first | (left; constructor <;> omega) | (right; constructor <;> omega))) | (show (0 : Int) ≤ _ ∧ _ ∧ _; refine ⟨by omega, by omega, by decide⟩)))
/-- what stands at an index -/
local macro_rules | `(tactic| walk_at "at") => `(tactic| first | rfl | assumption)
/-- what stands at an address -/
local macro_rules | `(tactic| walk_at "hp") => `(tactic| first | assumption | exact upd_same | ((refine' Eq.trans (upd_ne ?hn) ?hm); (case hm => walk_at "hp"); (case hn => walk_at "ne")))
/-- two places are two -/
local macro_rules | `(tactic| walk_at "ne") => `(tactic| first
  | assumption | exact Ne.symm (by assumption)
  | ((refine' ne_of_none ?ha ?hb); (case hb => assumption); (case ha => walk_at "hp")) | ((refine' Ne.symm (ne_of_none ?ha ?hb)); (case hb => assumption); (case ha => walk_at "hp")))
/-- what a dict tells -/
local macro_rules | `(tactic| walk_at "dg") => `(tactic| first | assumption)
/-- a length -/
local macro_rules | `(tactic| walk_at "sz") => `(tactic| first | (show _ ≤ sizeLine; decide) | (show _ < sizeLine; decide) | assumption | exact szlt (by simp) | exact szle (by simp))
/-- a list or tuple that stands -/
local macro_rules | `(tactic| walk_at "lk") => `(tactic| first | assumption | exact SqL.of (by assumption) | exact SqT.of (by assumption) | exact SqL.of upd_same | exact SqT.of upd_same | (refine' FzL.sq ?hm; (case hm => walk_at "fz")))
/-- a list that nobody writes -/
local macro_rules | `(tactic| walk_at "fz") => `(tactic| first | assumption | ((refine' FzL.uw ?hm ?hx); (case hx => walk_at "hp"); (case hm => walk_at "fz")) | ((refine' FzL.nw ?hm ?hx); (case hx => assumption); (case hm => walk_at "fz")))
/-- as far as it goes by itself -/
local macro_rules | `(tactic| walk_at "g") => `(tactic| repeat walk_at "g1")
/-- the body's reading, its places in short -/
local macro_rules | `(tactic| walk_at "go") => `(tactic| ((try dsimp only [cxOf, Cx.nox, Cx.wish]); walk_at "g"))
namespace K3
open PySem PySem.Spec PyProof.Rows L2 Bq
section
variable {P : Program} {w : World} {K : PySem.W.Frag} {mg : Str → Option Value} {base : Heap}
/-- further steps: dicts written, tuples taken apart -/
local macro_rules | `(tactic| walk_at "g1") => `(tactic| first
  | with_reducible refine' g_sdput ?_
  | ((with_reducible refine' g_gtup ?hs ?hl ?_); (case hs => walk_at "lk"); (case hl => rfl))
  | with_reducible refine' g_gcons ?_
  | with_reducible refine' g_gnil ?_
  | with_reducible refine' And.intro (Eq.refl V.non) ?_
  | with_reducible refine' g_isN ?_
  | ((with_reducible refine' g_chainR ?ha ?hb ?hc ?_); (case ha => intro R q; walk_at "g"; exact q); (case hb => intro R q; walk_at "g"; exact q); (case hc => intro R q; walk_at "g"; exact q))
  | with_reducible refine' g_notN ?_)
/-- what the law's dict tells -/
local macro_rules | `(tactic| walk_at "dg") => `(tactic| first
  | assumption
  | exact LH.gfuns (by assumption)
  | exact LH.gsaid (by assumption)
  | exact LH.gcells (by assumption)
  | exact LH.gfuel (by assumption)
  | exact LH.gend (by assumption)
  | exact LH.gcalls (by assumption)
  | exact LH.gnames (by assumption)
  | exact LH.gwaits (by assumption)
  | exact LH.gworth (by assumption)
  | exact LH.glook (by assumption))
/-- a test that fails, that holds, by itself -/
local macro_rules | `(tactic| walk_at "no") => `(tactic| ((refine tkF rfl ?_); walk_at "g"))
local macro_rules | `(tactic| walk_at "yes") => `(tactic| ((refine tkT rfl ?_); walk_at "g"))
/-- fields, methods -/
local macro_rules | `(tactic| walk_at "g1") => `(tactic| first
  | with_reducible refine' g_fl0 ?_
  | ((with_reducible refine' g_fl ?he ?hl ?_); (case he => walk_at "hp"); (case hl => rfl))
  | with_reducible refine' g_sfl0 ?_
  | with_reducible refine' g_sag0 ?_
  | with_reducible refine' g_mth0 ?_
  | ((with_reducible refine' g_mth ?he ?hl ?_); (case he => walk_at "hp"); (case hl => rfl))
  | with_reducible refine' g_mkI ?_
  | ((with_reducible refine' g_chainG ?ha ?hb ?hc ?_); (case ha => intro R q; walk_at "g"; exact q); (case hb => intro R q; walk_at "g"; exact q); (case hc => intro R q; walk_at "g"; exact q)))
/-! ### the program's machine in the heap -/
structure FD where
  fa : Addr
  fx : Addr
  na : Addr
  ta : Addr
  wa : Addr
  tv : List V
structure MB where
  dg : Addr
  dx : Addr
  wd : Addr
  wx : Addr
  sa : Addr
  ca : Addr
  fl : Addr
  pv : V
def dF (pv : V) (wd fl : Addr) (t : Int) : List (Str × V) := [("program", pv), ("world", .ref wd), ("frames", .ref fl), ("told", .int t)]
def frC (K : PySem.W.Frag) (d : FD) (f : Fr) : List (Addr × HO) := [(d.fa, .ins (He.ga K "Frame") d.fx (fF d.na d.ta d.wa)), (d.na, .lst (iv f.names)), (d.ta, .lst d.tv), (d.wa, .lst (iv f.worths))]
def frS (K : PySem.W.Frag) : List FD → List Fr → List (Addr × HO)
  | d :: ds, f :: fs => frC K d f ++ frS K ds fs
  | _, _ => []
inductive FT (K : PySem.W.Frag) (H : Hp) : List FD → List Fr → Prop where
  | nil : FT K H [] []
  | cons {d f ds fs} (h : Tds K H d.tv f.todo.reverse) (r : FT K H ds fs) : FT K H (d :: ds) (f :: fs)
theorem FT.kt {H H' : Hp} (k : Kt K H H') {ds : List FD} {fs : List Fr} (h : FT K H ds fs) : FT K H' ds fs := by
  induction h with
  | nil => exact .nil
  | cons h _ ih => exact .cons (h.kt k) ih
theorem FT.len {H : Hp} {ds : List FD} {fs : List Fr} (h : FT K H ds fs) : ds.length = fs.length := by
  induction h with
  | nil => rfl
  | cons h _ ih => exact congrArg Nat.succ ih
def flV (ds : List FD) : List V := ds.reverse.map fun d => .ref d.fa
theorem flV_cons (d : FD) (ds : List FD) : flV (d :: ds) = flV ds ++ [.ref d.fa] := by
  unfold flV
  rw [List.reverse_cons, List.map_append]
  rfl
def mS (K : PySem.W.Frag) (b : MB) (ds : List FD) (T : PT) : List (Addr × HO) :=
  (b.dg, .ins (He.ga K "Doing") b.dx (dF b.pv b.wd b.fl T.told)) :: (b.wd, .ins (He.ga K "World") b.wx (wF b.sa b.ca (T.fuel : Nat))) :: (b.sa, .lst (iv T.said)) :: (b.ca, .lst (iv T.cells)) :: (b.fl, .lst (flV ds)) :: frS K ds T.fr
structure PM (K : PySem.W.Frag) (Hb H : Hp) (fs : List Fu) (b : MB) (ds : List FD) (T : PT) : Prop where
  own : Own K Hb H (mS K b ds T)
  ft : FT K H ds T.fr
  rp : Rep K H b.pv (.tup (fs.map encF))
section
variable {Hb H H' : Hp} {fs : List Fu} {b : MB} {ds : List FD} {T : PT}
theorem PM.ch (h : PM K Hb H fs b ds T) (c : Ch K [] H H') : PM K Hb H' fs b ds T := ⟨h.own.ch c, h.ft.kt c.kt, h.rp.kt c.kt⟩
theorem PM.hdg (h : PM K Hb H fs b ds T) : H b.dg = some (.ins (He.ga K "Doing") b.dx (dF b.pv b.wd b.fl T.told)) := h.own.at_ (l1 := [])
theorem PM.hwd (h : PM K Hb H fs b ds T) : H b.wd = some (.ins (He.ga K "World") b.wx (wF b.sa b.ca (T.fuel : Nat))) := h.own.at_ (l1 := [_])
theorem PM.hsa (h : PM K Hb H fs b ds T) : H b.sa = some (.lst (iv T.said)) := h.own.at_ (l1 := [_, _])
theorem PM.hca (h : PM K Hb H fs b ds T) : H b.ca = some (.lst (iv T.cells)) := h.own.at_ (l1 := [_, _, _])
theorem PM.hfl (h : PM K Hb H fs b ds T) : H b.fl = some (.lst (flV ds)) := h.own.at_ (l1 := [_, _, _, _])
end
/-- the frame on top -/
structure Top (K : PySem.W.Frag) (H : Hp) (d : FD) (f : Fr) : Prop where
  fa : H d.fa = some (.ins (He.ga K "Frame") d.fx (fF d.na d.ta d.wa))
  na : H d.na = some (.lst (iv f.names))
  ta : H d.ta = some (.lst d.tv)
  wa : H d.wa = some (.lst (iv f.worths))
  td : Tds K H d.tv f.todo.reverse
theorem PM.top {Hb H : Hp} {fs : List Fu} {b : MB} {d : FD} {ds : List FD} {sd ce : List Int} {fu : Nat} {f : Fr} {r : List Fr} {tl : Int} (h : PM K Hb H fs b (d :: ds) ⟨sd, ce, fu, f :: r, tl⟩) : Top K H d f := by
  refine ⟨h.own.at_ (l1 := [_, _, _, _, _]), h.own.at_ (l1 := [_, _, _, _, _, _]), h.own.at_ (l1 := [_, _, _, _, _, _, _]), h.own.at_ (l1 := [_, _, _, _, _, _, _, _]), ?_⟩
  cases h.ft
  assumption
theorem PM.ds1 {Hb H : Hp} {fs : List Fu} {b : MB} {ds : List FD} {sd ce : List Int} {fu : Nat} {f : Fr} {r : List Fr} {tl : Int} (h : PM K Hb H fs b ds ⟨sd, ce, fu, f :: r, tl⟩) : ∃ d ds', ds = d :: ds' ∧ ds'.length = r.length := by
  have := h.ft.len
  cases ds with
  | nil => simp at this
  | cons d ds' => exact ⟨d, ds', rfl, by simpa using this⟩
def spLeave (K : PySem.W.Frag) : Sp := fun vs H Q _ => ∃ Hb fs b ds sd ce fu f r tl, ∃ v : Int, vs = [.ref b.dg, .int v] ∧ PM K Hb H fs b ds ⟨sd, ce, fu, f :: r, tl⟩ ∧ (∀ g ∈ r, g.worths.length ≤ 9000000) ∧
  ∀ H' ds', PM K Hb H' fs b ds' ⟨sd, ce, fu, (leaveF v tl r).1, (leaveF v tl r).2⟩ → Q .non H'
theorem fn_leave (C : Cn w K mg base) : Mth P w K mg base CX0 2 (He.ga K "Doing") "leave" ["self", "worth"] (spLeave K) := C.f_Doing_leave fun fd F => by
  refine F.ok (CX := CX0) sc_Doing_leave (fun vs H Q E h => ?_) (fun cdv A outer s H vs Q E hr h => ?_)
  · obtain ⟨Hb, fs, b, ds, sd, ce, fu, f, r, tl, v, rfl, _⟩ := h
    rfl
  · obtain ⟨Hb, fs, b, ds, sd, ce, fu, f, r, tl, v, rfl, pm, hz, q⟩ := h
    refine ⟨_, PSs.nox (pss_cons (ps_expr (pe_bm0 PySem.F.plainAttrs_list PySem.F.slot_list_pop PySem.F.type_list_pop mt_pop (pe_fl C.cl_Doing C.na_Doing_frames (pv 0))))
      (pss_one (ps_if (pt_truth (pe_fl C.cl_Doing C.na_Doing_frames (pv 0)) (by intro _; rfl)) (pss_one (ps_expr (pe_bm PySem.F.plainAttrs_list PySem.F.slot_list_append PySem.F.type_list_append mt_append (pe_fl C.cl_Frame C.na_Frame_worths (pe_ix ix_list (pe_fl C.cl_Doing C.na_Doing_frames (pv 0)) (pe_un un_neg pe_int) (fun _ _ => rfl))) (pa_cons (pv 1) pa_nil)))) (pss_one (ps_fl C.cl_Doing C.na_Doing_told (pv 0) (pv 1)))))), ?_⟩
    obtain ⟨d, ds, rfl, ld⟩ := pm.ds1
    have hdg := pm.hdg
    have hfl := pm.hfl
    rw [flV_cons] at hfl
    walk_at "go"
    refine ⟨b.fl, _, .ref d.fa, rfl, rfl, hfl, by rw [List.length_append]; simp, ?_⟩
    rw [List.dropLast_concat]
    have O1 : Own K Hb (upd H b.fl (.lst (flV ds))) ((b.dg, .ins (He.ga K "Doing") b.dx (dF b.pv b.wd b.fl tl)) :: (b.wd, .ins (He.ga K "World") b.wx (wF b.sa b.ca (fu : Nat))) :: (b.sa, .lst (iv sd)) :: (b.ca, .lst (iv ce)) :: (b.fl, .lst (flV ds)) :: (frC K d f ++ frS K ds r)) := pm.own.wr (l1 := [_, _, _, _]) rfl
    have k1 : Kt K H (upd H b.fl (.lst (flV ds))) := (Ch.wr (S := [b.fl]) pm.hfl rfl (by simp)).kt
    generalize upd H b.fl (.lst (flV ds)) = H1 at O1 k1 ⊢
    have pm1 : PM K Hb H1 fs b ds ⟨sd, ce, fu, r, tl⟩ := by
      refine ⟨O1.sub ?_, ?_, pm.rp.kt k1⟩
      · exact .cons₂ _ (.cons₂ _ (.cons₂ _ (.cons₂ _ (.cons₂ _ (List.sublist_append_right _ _)))))
      · cases pm.ft with
        | cons _ hr => exact hr.kt k1
    have hdg1 := pm1.hdg
    have hfl1 := pm1.hfl
    have hl1 : SqL K H1 b.fl (flV ds) := SqL.of hfl1
    walk_at "g"
    cases r with
    | nil =>
      obtain rfl : ds = [] := List.length_eq_zero_iff.mp ld
      refine ⟨_, .inl ⟨_, hl1, rfl⟩, tkF rfl ?_⟩
      walk_at "g"
      refine g_sfl (fs' := dF b.pv b.wd b.fl v) hdg1 (by simp [dF]) rfl ?_
      refine q _ [] ⟨pm1.own.wr (l1 := []) rfl, .nil, pm1.rp.kt (Ch.wr (S := [b.dg]) hdg1 rfl (by simp)).kt⟩
    | cons g r =>
      obtain ⟨d2, ds, rfl, ld2⟩ := pm1.ds1
      rw [flV_cons] at hl1
      refine ⟨_, .inl ⟨_, hl1, rfl⟩, tkT ?_ ?_⟩
      · cases flV ds <;> rfl
      · have hlast := atI_last (flV ds) (.ref d2.fa)
        have tp := pm1.top
        have hfa2 := tp.fa
        have hwa2 := tp.wa
        have hz2 := hz g (List.mem_cons_self ..)
        have hsz : (iv g.worths).length < sizeLine := by rw [iv_len, sizeLine_eq]; omega
        walk_at "g"
        rw [show iv g.worths ++ [V.int v] = iv (g.worths ++ [v]) from (iv_app g.worths [v]).symm]
        have k2 : Kt K H1 (upd H1 d2.wa (.lst (iv (g.worths ++ [v])))) := (Ch.wr (S := [d2.wa]) hwa2 rfl (by simp)).kt
        refine q _ (d2 :: ds) ⟨pm1.own.wr (l1 := [_, _, _, _, _, _, _, _]) rfl, ?_, pm1.rp.kt k2⟩
        cases pm1.ft with
        | cons h hr => exact .cons (h.kt k2) (hr.kt k2)
def spEnter (K : PySem.W.Frag) : Sp := fun vs H Q E => ∃ Hb fs b ds sd ce fu fr tl ha, ∃ f : Nat, ∃ ws : List Int, vs = [.ref b.dg, .int (f : Nat), .ref ha] ∧ PM K Hb H fs b ds ⟨sd, ce, fu, fr, tl⟩ ∧ fr.length ≤ 61 ∧ 1 ≤ fr.length ∧ H ha = some (.lst (iv ws)) ∧
  (fr.length ≤ 60 → ∀ fu', fu = fu' + 1 → ∃ fn, fs[f]? = some fn ∧ ws.length = fn.ps ∧ fn.ps ≤ fn.nm ∧ fn.nm ≤ 8 ∧ fn.body.length ≤ 8000000 ∧ ∀ H' ds', PM K Hb H' fs b ds' ⟨sd, ce, fu', ⟨handed fn ws, asD fn.body, []⟩ :: fr, tl⟩ → Q .non H') ∧
  (fr.length ≤ 60 → fu = 0 → LgE K E H) ∧ (60 < fr.length → FtE K E H "deep")
theorem fn_enter (C : Cn w K mg base) (MF : MkF P w K mg base) (ML : MkL P w K mg base) : Mth P w K mg base (L2.CX P w) 5 (He.ga K "Doing") "enter" ["self", "fun", "handed"] (spEnter K) := C.f_Doing_enter fun fd F => by
  have F_World_spend_on_call : Mth P w K mg base (L2.CX P w) 4 (He.ga K "World") "spend_on_call" ["self", "waiting"] (spSpendCall K) := fn_spend_call C MF ML
  have F_Frame_init : Ini P w K mg base CX0 3 "Frame" ["self", "fun", "handed"] (spFrame K) := fn_frame C
  refine F.ok (CX := L2.CX P w) sc_Doing_enter (fun vs H Q E h => ?_) (fun cdv A outer s H vs Q E hr h => ?_)
  · obtain ⟨Hb, fs, b, ds, sd, ce, fu, fr, tl, ha, f, ws, rfl, _⟩ := h
    rfl
  · obtain ⟨Hb, fs, b, ds, sd, ce, fu, fr, tl, ha, f, ws, rfl, pm, l61, l1, hha, q1, q2, q3⟩ := h
    refine ⟨_, (pss_cons (ps_expr (pe_mth F_World_spend_on_call C.cl_World (rmm hr) (passes_call (takes_of rfl rfl rfl rfl) (fun _ _ _ _ h => h)) (pe_fl C.cl_Doing C.na_Doing_world (pv 0)) (pa_cons (pe_op op_sub (pe_callB call_len_seq (by rfl) (C.m_len) PySem.boot_len (pa_cons (pe_fl C.cl_Doing C.na_Doing_frames (pv 0)) pa_nil)) pe_int) pa_nil)))
      (pss_one (ps_expr (pe_bm PySem.F.plainAttrs_list PySem.F.slot_list_append PySem.F.type_list_append mt_append (pe_fl C.cl_Doing C.na_Doing_frames (pv 0)) (pa_cons (pe_mkI F_Frame_init C.cg_Frame (rmm hr) (by rfl) pass0 (pa_cons (pe_ix ix_tup (pe_fl C.cl_Doing C.na_Doing_program (pv 0)) (pv 1) (fun _ _ => rfl)) (pa_cons (pv 2) pa_nil))) pa_nil))))), ?_⟩
    have hdg := pm.hdg
    have hwd := pm.hwd
    have hl : SqL K H b.fl (flV ds) := SqL.of pm.hfl
    have lf : (flV ds).length = fr.length := by unfold flV; rw [List.length_map, List.length_reverse]; exact pm.ft.len
    walk_at "go"
    rw [lf]
    have e1 : ((fr.length : Nat) : Int) - 1 = ((fr.length - 1 : Nat) : Int) := by omega
    rw [e1]
    refine ⟨b.wd, b.wx, b.sa, b.ca, fu, fr.length - 1, rfl, hwd, fun hn fu' e => ?_, fun hn e => q2 (by omega) e, fun hn => q3 (by omega)⟩
    obtain ⟨fn, hf, lw, hpn, hn8, hb, q⟩ := q1 (by omega) fu' e
    have pm1 : PM K Hb (upd H b.wd (.ins (He.ga K "World") b.wx (wF b.sa b.ca (fu' : Nat)))) fs b ds ⟨sd, ce, fu', fr, tl⟩ := by
      have k1 : Kt K H (upd H b.wd (.ins (He.ga K "World") b.wx (wF b.sa b.ca (fu' : Nat)))) := (Ch.wr (S := [b.wd]) hwd rfl (by simp)).kt
      exact ⟨pm.own.wr (l1 := [_]) rfl, pm.ft.kt k1, pm.rp.kt k1⟩
    have hha1 : (upd H b.wd (.ins (He.ga K "World") b.wx (wF b.sa b.ca (fu' : Nat)))) ha = some (.lst (iv ws)) := by
      rw [upd_ne (ne_of hha hwd (by intro z; cases z))]
      exact hha
    generalize upd H b.wd (.ins (He.ga K "World") b.wx (wF b.sa b.ca (fu' : Nat))) = H1 at pm1 hha1 ⊢
    have hdg1 := pm1.hdg
    have hl1 : SqL K H1 b.fl (flV ds) := SqL.of pm1.hfl
    obtain ⟨pa, pvs, epv, hpa, rps⟩ := pm1.rp.tupI
    obtain ⟨fv, hfv, rfv⟩ := rps.getT (i := f) (t := encF fn) (by rw [List.getElem?_map, hf]; rfl)
    have hat : atI pvs ((f : Nat) : Int) = some fv := atI_nat hfv
    walk_at "g"
    rw [epv]
    walk_at "g"
    refine fun fa fx nfa nfx ne => ?_
    have c1 : Ch K [] H1 (upd H1 fx (.own fa)) := Ch.new nfx
    have nfa1 : (upd H1 fx (.own fa)) fa = none := by rw [upd_ne (Ne.symm ne)]; exact nfa
    have O2 := (pm1.own.ch c1).new nfa1 (Ch.new (o := .ins (He.ga K "Frame") fx []) nfa1) upd_same
    have c2 := c1.trans (Ch.new (S := []) (o := .ins (He.ga K "Frame") fx []) nfa1)
    generalize upd (upd H1 fx (.own fa)) fa (.ins (He.ga K "Frame") fx []) = H2 at O2 c2 ⊢
    refine ⟨Hb, _, fa, fx, fv, ha, fn, ws, rfl, O2, rfv.kt c2.kt, c2.up _ _ hha1 (by simp), lw, hpn, hn8, hb, fun H3 na ta wa tvs k3 O3 t3 => ⟨rfl, ?_⟩⟩
    have O4 : Own K Hb H3 (mS K b ds ⟨sd, ce, fu', fr, tl⟩ ++ frC K ⟨fa, fx, na, ta, wa, tvs⟩ ⟨handed fn ws, asD fn.body, []⟩) := O3.perm (List.perm_append_comm (l₁ := frC K ⟨fa, fx, na, ta, wa, tvs⟩ ⟨handed fn ws, asD fn.body, []⟩))
    have hfl3 : H3 b.fl = some (.lst (flV ds)) := O4.at_ (l1 := [_, _, _, _])
    have hsz : (flV ds).length < sizeLine := by rw [lf, sizeLine_eq]; omega
    unfold tNil
    refine g_app hfl3 hsz ?_
    have O5 : Own K Hb (upd H3 b.fl (.lst (flV ds ++ [.ref fa]))) ((b.dg, .ins (He.ga K "Doing") b.dx (dF b.pv b.wd b.fl tl)) :: (b.wd, .ins (He.ga K "World") b.wx (wF b.sa b.ca (fu' : Nat))) :: (b.sa, .lst (iv sd)) :: (b.ca, .lst (iv ce)) :: (b.fl, .lst (flV ds ++ [.ref fa])) ::
      (frS K ds fr ++ frC K ⟨fa, fx, na, ta, wa, tvs⟩ ⟨handed fn ws, asD fn.body, []⟩)) := O4.wr (l1 := [_, _, _, _]) rfl
    have k5 : Kt K H3 (upd H3 b.fl (.lst (flV ds ++ [.ref fa]))) := (Ch.wr (S := [b.fl]) hfl3 rfl (by simp)).kt
    refine q _ (⟨fa, fx, na, ta, wa, tvs⟩ :: ds) ⟨O5.perm ?_, .cons (t3.kt k5) (pm1.ft.kt (c2.kt.trans (k3.trans k5))), pm1.rp.kt (c2.kt.trans (k3.trans k5))⟩
    simp only [mS]
    rw [flV_cons]
    exact .cons _ (.cons _ (.cons _ (.cons _ (.cons _ List.perm_append_comm))))
end
end K3
end

section
set_option maxRecDepth 100000
set_option maxHeartbeats 1000000
open Bq L2
/-- one step of a reading; what is left are side goals and places to think -/
local macro_rules | `(tactic| walk_at "g1") => `(tactic| first
  | with_reducible refine' g_seq ?_ | with_reducible refine' g_asg ?_ | with_reducible refine' g_drop ?_ | with_reducible refine' g_ret ?_ | with_reducible refine' g_ifS ?_ | with_reducible refine' g_asgG ?_
  | ((with_reducible refine' g_var ?hv ?_); (case hv => rfl))
  | with_reducible refine' g_c ?_ | with_reducible refine' g_op ?_ | with_reducible refine' g_un ?_ | with_reducible refine' g_I0 ?_ | with_reducible refine' g_U ?_
  | with_reducible refine' g_test ?_ | with_reducible refine' g_tB ?_ | with_reducible refine Exists.intro _ (And.intro rfl ?_) 
  | ((with_reducible refine' g_andP ?ha ?hb ?_); (case ha => intro R q; walk_at "g"; exact q); (case hb => intro R q; walk_at "g"; exact q))
  | ((with_reducible refine' g_orP ?ha ?hb ?_); (case ha => intro R q; walk_at "g"; exact q); (case hb => intro R q; walk_at "g"; exact q))
  | with_reducible refine' g_and ?_ | with_reducible refine' g_or ?_ | with_reducible refine' g_not ?_
  | with_reducible refine' g_andV ?_ | with_reducible refine' g_orV ?_ | with_reducible refine' g_notV ?_ | with_reducible refine' g_if ?_ | with_reducible refine' g_nil ?_ | with_reducible refine' g_cons ?_
  | with_reducible refine' g_tup ?_ | with_reducible refine' g_lst ?_ | with_reducible refine' g_CB ?_ | with_reducible refine' g_Fn ?_ | with_reducible refine' g_next ?_ | with_reducible refine' g_retN ?_
  | with_reducible refine' g_name ?_ | with_reducible refine' g_sub ?_
  | ((with_reducible refine' g_ixL ?hs ?he ?_); (case hs => walk_at "lk"); (case he => walk_at "at"))
  | ((with_reducible refine' g_ixT ?hs ?he ?_); (case hs => walk_at "lk"); (case he => walk_at "at"))
  | ((with_reducible refine' g_setL ?hs ?he ?_); (case hs => walk_at "hp"); (case he => rfl))
  | ((with_reducible refine' g_app ?hs ?hz ?_); (case hs => walk_at "hp"); (case hz => walk_at "sz"))
  | ((with_reducible refine' ⟨_, _, rfl, Or.inl ?hs, ?_⟩); (case hs => walk_at "lk"))
  | ((with_reducible refine' ⟨_, _, rfl, Or.inr ?hs, ?_⟩); (case hs => walk_at "lk"))
  | with_reducible refine' g_BM ?_ | with_reducible refine' g_BM0 ?_ | ((with_reducible refine' g_tyL ?hs ?_); (case hs => walk_at "lk"))
  | with_reducible refine' g_sl ?_ | with_reducible refine' g_noPart ?_ | with_reducible refine' g_part ?_
  | ((with_reducible refine' g_inT ?hs ?fx ?fs ?_); (case hs => walk_at "lk"); (case fx => rfl); (case fs => rfl))
  | with_reducible refine' g_pair ?_ | with_reducible refine' g_pair0 ?_ | with_reducible refine' g_disp ?_
  | with_reducible refine' g_for ?_ | with_reducible refine' g_tupC ?_ | with_reducible refine' g_lstC ?_ | ((with_reducible refine' g_lens ?_)) | with_reducible refine' g_dg ?_ | with_reducible refine' g_lc ?_ | with_reducible refine' g_rng1 ?_ | with_reducible refine' g_ilist ?_ | with_reducible refine' g_itup ?_
  | ((with_reducible refine' ⟨_, _, rfl, ?hd, ?_⟩); (case hd => walk_at "dg"))
  | ((with_reducible refine' g_eqNil ?hs ?hz ?_); (case hs => walk_at "lk"); (case hz => walk_at "lk"))
  | ((with_reducible refine' g_neNil ?hs ?hz ?_); (case hs => walk_at "lk"); (case hz => walk_at "lk"))
  | with_reducible refine Or.inl ⟨_, rfl, ?_⟩
  | with_reducible refine Or.inr ⟨_, rfl, ?_⟩
  | ((with_reducible refine' g_eq ?hs ?_); (case hs => rfl))
  | ((with_reducible refine' g_ne ?hs ?_); (case hs => rfl))
  | ((with_reducible refine' g_I ?hc ?_); (case hc => walk_at "ar")))
/-- arithmetic's side conditions -/
local macro_rules | `(tactic| walk_at "ar") => `(tactic| (first
  | (show (0 : Int) < _; first | omega | decide) | (show (0 : Int) < _ ∧ _; constructor <;> omega) | (show ¬ (_ : Int) = _; omega) | (show (_ : Int) ≠ _ ∧ _; constructor <;> omega)
  | (show (-(2 ^ 64) < _ ∧ _) ∨ _; (first | (left; constructor <;> omega) | (right; constructor <;> omega))) | (show (0 : Int) ≤ _ ∧ _ ∧ _; refine ⟨by omega, by omega, by decide⟩)))
/-- what stands at an index -/
local macro_rules | `(tactic| walk_at "at") => `(tactic| first | rfl | assumption)
/-- what stands at an address -/
local macro_rules | `(tactic| walk_at "hp") => `(tactic| first | assumption | exact upd_same | ((refine' Eq.trans (upd_ne ?hn) ?hm); (case hm => walk_at "hp"); (case hn => walk_at "ne")))
/-- two places are two -/
local macro_rules | `(tactic| walk_at "ne") => `(tactic| first
  | assumption | exact Ne.symm (by assumption)
  | ((refine' ne_of_none ?ha ?hb); (case hb => assumption); (case ha => walk_at "hp")) | ((refine' Ne.symm (ne_of_none ?ha ?hb)); (case hb => assumption); (case ha => walk_at "hp")))
/-- what a dict tells -/
local macro_rules | `(tactic| walk_at "dg") => `(tactic| first | assumption)
/-- a length -/
local macro_rules | `(tactic| walk_at "sz") => `(tactic| first | (show _ ≤ sizeLine; decide) | (show _ < sizeLine; decide) | assumption | exact szlt (by simp) | exact szle (by simp))
/-- a list or tuple that stands -/
local macro_rules | `(tactic| walk_at "lk") => `(tactic| first | assumption | exact SqL.of (by assumption) | exact SqT.of (by assumption) | exact SqL.of upd_same | exact SqT.of upd_same | (refine' FzL.sq ?hm; (case hm => walk_at "fz")))
/-- a list that nobody writes -/
local macro_rules | `(tactic| walk_at "fz") => `(tactic| first | assumption | ((refine' FzL.uw ?hm ?hx); (case hx => walk_at "hp"); (case hm => walk_at "fz")) | ((refine' FzL.nw ?hm ?hx); (case hx => assumption); (case hm => walk_at "fz")))
/-- as far as it goes by itself -/
local macro_rules | `(tactic| walk_at "g") => `(tactic| repeat walk_at "g1")
/-- the body's reading, its places in short -/
local macro_rules | `(tactic| walk_at "go") => `(tactic| ((try dsimp only [cxOf, Cx.nox, Cx.wish]); walk_at "g"))
namespace K3
open PySem PySem.Spec PyProof.Rows L2 Bq
section
variable {P : Program} {w : World} {K : PySem.W.Frag} {mg : Str → Option Value} {base : Heap}
/-- further steps: dicts written, tuples taken apart -/
local macro_rules | `(tactic| walk_at "g1") => `(tactic| first
  | with_reducible refine' g_sdput ?_
  | ((with_reducible refine' g_gtup ?hs ?hl ?_); (case hs => walk_at "lk"); (case hl => rfl))
  | with_reducible refine' g_gcons ?_
  | with_reducible refine' g_gnil ?_
  | with_reducible refine' And.intro (Eq.refl V.non) ?_
  | with_reducible refine' g_isN ?_
  | ((with_reducible refine' g_chainR ?ha ?hb ?hc ?_); (case ha => intro R q; walk_at "g"; exact q); (case hb => intro R q; walk_at "g"; exact q); (case hc => intro R q; walk_at "g"; exact q))
  | with_reducible refine' g_notN ?_)
/-- what the law's dict tells -/
local macro_rules | `(tactic| walk_at "dg") => `(tactic| first
  | assumption
  | exact LH.gfuns (by assumption)
  | exact LH.gsaid (by assumption)
  | exact LH.gcells (by assumption)
  | exact LH.gfuel (by assumption)
  | exact LH.gend (by assumption)
  | exact LH.gcalls (by assumption)
  | exact LH.gnames (by assumption)
  | exact LH.gwaits (by assumption)
  | exact LH.gworth (by assumption)
  | exact LH.glook (by assumption))
/-- a test that fails, that holds, by itself -/
local macro_rules | `(tactic| walk_at "no") => `(tactic| ((refine tkF rfl ?_); walk_at "g"))
local macro_rules | `(tactic| walk_at "yes") => `(tactic| ((refine tkT rfl ?_); walk_at "g"))
/-- fields, methods -/
local macro_rules | `(tactic| walk_at "g1") => `(tactic| first
  | with_reducible refine' g_fl0 ?_
  | ((with_reducible refine' g_fl ?he ?hl ?_); (case he => walk_at "hp"); (case hl => rfl))
  | with_reducible refine' g_sfl0 ?_
  | with_reducible refine' g_sag0 ?_
  | with_reducible refine' g_mth0 ?_
  | ((with_reducible refine' g_mth ?he ?hl ?_); (case he => walk_at "hp"); (case hl => rfl))
  | with_reducible refine' g_mkI ?_
  | ((with_reducible refine' g_chainG ?ha ?hb ?hc ?_); (case ha => intro R q; walk_at "g"; exact q); (case hb => intro R q; walk_at "g"; exact q); (case hc => intro R q; walk_at "g"; exact q)))
/-! ### a deed or a part done -/
theorem g_caseY {w : Str} {n : Nat} {sl : List (Option Nat)} {tb : TS} {tr : V → TS} {D : L2.Ends} {σ : L2.St} {H : Hp} {a : Addr} {xs : List V} (h : SqT K H a (.str w :: xs)) (hl : xs.length = n) (q : tb D (capS sl xs σ) H) : tCase K w n sl tb tr (.ref a) D σ H :=
  ⟨a, w, xs, rfl, h, by rw [if_pos (by simp [hl])]; exact q⟩
theorem g_caseN {w z : Str} {n : Nat} {sl : List (Option Nat)} {tb : TS} {tr : V → TS} {D : L2.Ends} {σ : L2.St} {H : Hp} {a : Addr} {xs : List V} (h : SqT K H a (.str z :: xs)) (hl : z ≠ w) (q : tr (.ref a) D σ H) : tCase K w n sl tb tr (.ref a) D σ H :=
  ⟨a, z, xs, rfl, h, by rw [if_neg (by simp [hl])]; exact q⟩
def XF (K : PySem.W.Frag) (Hb : Hp) (fs : List Fu) (b : MB) (sd ce : List Int) (E : XK) (z : Str) : Prop := ∀ H' d ds T, PM K Hb H' fs b ds T → T.said = sd → T.cells = ce → H' d = some (.xd [("word", .str z)]) → E (.ref (He.ga K "Fault")) (some d) H'
def XL (K : PySem.W.Frag) (Hb : Hp) (fs : List Fu) (b : MB) (sd ce : List Int) (E : XK) : Prop := ∀ H' ds T, PM K Hb H' fs b ds T → T.said = sd → T.cells = ce → E (.ref (He.ga K "Long")) none H'
def XE' (K : PySem.W.Frag) (Hb : Hp) (fs : List Fu) (b : MB) (E : XK) (f : Fi) : Prop := match f.en with
  | .fault z => XF K Hb fs b f.said f.cells E z
  | .long => XL K Hb fs b f.said f.cells E
  | .worth _ => True
theorem PM.ft_ {Hb H : Hp} {fs : List Fu} {b : MB} {ds : List FD} {T : PT} {E : XK} {z : Str} (pm : PM K Hb H fs b ds T) (x : XF K Hb fs b T.said T.cells E z) : FtE K E H z := fun d _ _ c e => x _ d ds T (pm.ch c) rfl rfl e
theorem PM.lg_ {Hb H : Hp} {fs : List Fu} {b : MB} {ds : List FD} {T : PT} {E : XK} (pm : PM K Hb H fs b ds T) (x : XL K Hb fs b T.said T.cells E) : LgE K E H := x _ ds T pm rfl rfl
def Res (K : PySem.W.Frag) (Hb : Hp) (fs : List Fu) (b : MB) (T : PT) (Q : VK) (E : XK) : Prop := (∃ T', PStep fs T T' ∧ Sm T' ∧ ∀ H' ds', PM K Hb H' fs b ds' T' → Q .non H') ∨ ∃ f, PEnds fs T f ∧ T.fr ≠ [] ∧ XE' K Hb fs b E f
section
variable {Hb H H' : Hp} {fs : List Fu} {b : MB} {d : FD} {ds : List FD} {sd ce nm wo : List Int} {fu : Nat} {td : List (Bool × Th)} {r : List Fr} {tl : Int}
theorem PM.setN (pm : PM K Hb H fs b (d :: ds) ⟨sd, ce, fu, ⟨nm, td, wo⟩ :: r, tl⟩) (nm' : List Int) : PM K Hb (upd H d.na (.lst (iv nm'))) fs b (d :: ds) ⟨sd, ce, fu, ⟨nm', td, wo⟩ :: r, tl⟩ := by
  have k : Kt K H (upd H d.na (.lst (iv nm'))) := (Ch.wr (S := [d.na]) pm.top.na rfl (by simp)).kt
  refine ⟨pm.own.wr (l1 := [_, _, _, _, _, _]) rfl, ?_, pm.rp.kt k⟩
  cases pm.ft with
  | cons h hr => exact .cons (h.kt k) (hr.kt k)
theorem PM.setW (pm : PM K Hb H fs b (d :: ds) ⟨sd, ce, fu, ⟨nm, td, wo⟩ :: r, tl⟩) (wo' : List Int) : PM K Hb (upd H d.wa (.lst (iv wo'))) fs b (d :: ds) ⟨sd, ce, fu, ⟨nm, td, wo'⟩ :: r, tl⟩ := by
  have k : Kt K H (upd H d.wa (.lst (iv wo'))) := (Ch.wr (S := [d.wa]) pm.top.wa rfl (by simp)).kt
  refine ⟨pm.own.wr (l1 := [_, _, _, _, _, _, _, _]) rfl, ?_, pm.rp.kt k⟩
  cases pm.ft with
  | cons h hr => exact .cons (h.kt k) (hr.kt k)
theorem PM.setWc (pm : PM K Hb H fs b (d :: ds) ⟨sd, ce, fu, ⟨nm, td, wo⟩ :: r, tl⟩) {wo' : List Int} (c : Ch K [d.wa] H H') (e : H' d.wa = some (.lst (iv wo'))) : PM K Hb H' fs b (d :: ds) ⟨sd, ce, fu, ⟨nm, td, wo'⟩ :: r, tl⟩ := by
  refine ⟨pm.own.set (l1 := [_, _, _, _, _, _, _, _]) c e, ?_, pm.rp.kt c.kt⟩
  cases pm.ft with
  | cons h hr => exact .cons (h.kt c.kt) (hr.kt c.kt)
theorem PM.setT (pm : PM K Hb H fs b (d :: ds) ⟨sd, ce, fu, ⟨nm, td, wo⟩ :: r, tl⟩) {tv' : List V} {td' : List (Bool × Th)} (c : Ch K [d.ta] H H') (e : H' d.ta = some (.lst tv')) (t : Tds K H' tv' td'.reverse) :
    PM K Hb H' fs b (⟨d.fa, d.fx, d.na, d.ta, d.wa, tv'⟩ :: ds) ⟨sd, ce, fu, ⟨nm, td', wo⟩ :: r, tl⟩ := by
  have O := pm.own.set (l1 := [_, _, _, _, _, _, _]) c e
  refine ⟨?_, ?_, pm.rp.kt c.kt⟩
  · simp only [mS]
    rw [flV_cons]
    have e1 : flV (d :: ds) = flV ds ++ [.ref d.fa] := flV_cons d ds
    rw [e1] at O
    exact O
  · cases pm.ft with
    | cons h hr => exact .cons t (hr.kt c.kt)
theorem PM.laid (pm : PM K Hb H fs b (d :: ds) ⟨sd, ce, fu, ⟨nm, td, wo⟩ :: r, tl⟩) {us : List V} {l : List (Bool × Th)} (c : Ch K [d.ta] H H') (e : H' d.ta = some (.lst (d.tv ++ us))) (t : Tds K H' us l.reverse) :
    PM K Hb H' fs b (⟨d.fa, d.fx, d.na, d.ta, d.wa, d.tv ++ us⟩ :: ds) ⟨sd, ce, fu, ⟨nm, l ++ td, wo⟩ :: r, tl⟩ := pm.setT c e (by rw [List.reverse_append]; exact (pm.top.td.kt c.kt).append t)
theorem PM.laySz (pm : PM K Hb H fs b (d :: ds) ⟨sd, ce, fu, ⟨nm, td, wo⟩ :: r, tl⟩) {sd' ce' nm' wo' : List Int} {fu' : Nat} {l : List (Bool × Th)} {r' : List Fr} {tl' : Int} {ts : List Th} (s : Sm ⟨sd', ce', fu', ⟨nm', l ++ td, wo'⟩ :: r', tl'⟩) (hl : ts.length ≤ l.length + 1000) : d.tv.length + ts.length ≤ 9000000 := by
  have h1 := pm.top.td.len
  have h2 := s.fr ⟨nm', l ++ td, wo'⟩ (List.mem_cons_self ..)
  rw [List.length_reverse] at h1
  simp only [lenF, List.length_append] at h1 h2
  omega
theorem PM.setS {T : PT} (pm : PM K Hb H fs b ds T) (l : List Int) : PM K Hb (upd H b.sa (.lst (iv l))) fs b ds { T with said := l } := by
  have k : Kt K H (upd H b.sa (.lst (iv l))) := (Ch.wr (S := [b.sa]) pm.hsa rfl (by simp)).kt
  exact ⟨pm.own.wr (l1 := [_, _]) rfl, pm.ft.kt k, pm.rp.kt k⟩
theorem PM.setC {T : PT} (pm : PM K Hb H fs b ds T) (l : List Int) : PM K Hb (upd H b.ca (.lst (iv l))) fs b ds { T with cells := l } := by
  have k : Kt K H (upd H b.ca (.lst (iv l))) := (Ch.wr (S := [b.ca]) pm.hca rfl (by simp)).kt
  exact ⟨pm.own.wr (l1 := [_, _, _]) rfl, pm.ft.kt k, pm.rp.kt k⟩
theorem PM.setF {T : PT} (pm : PM K Hb H fs b ds T) (f : Nat) : PM K Hb (upd H b.wd (.ins (He.ga K "World") b.wx (wF b.sa b.ca (f : Nat)))) fs b ds { T with fuel := f } := by
  have k : Kt K H (upd H b.wd (.ins (He.ga K "World") b.wx (wF b.sa b.ca (f : Nat)))) := (Ch.wr (S := [b.wd]) pm.hwd rfl (by simp)).kt
  exact ⟨pm.own.wr (l1 := [_]) rfl, pm.ft.kt k, pm.rp.kt k⟩
end
theorem ws1 {wo ws wo' : List Int} {v : Int} (e : wo ++ ws = wo' ++ [v]) (l : ws.length = 1) : wo = wo' ∧ ws = [v] := List.append_inj' e (by rw [l]; rfl)
theorem ws2 {wo ws wo' : List Int} {v u : Int} (e : wo ++ ws = wo' ++ [v, u]) (l : ws.length = 2) : wo = wo' ∧ ws = [v, u] := List.append_inj' e (by rw [l]; rfl)
theorem ws0 {wo ws wo' : List Int} (e : wo ++ ws = wo') (l : ws.length = 0) : wo = wo' ∧ ws = [] := by
  obtain rfl := List.length_eq_zero_iff.mp l
  rw [List.append_nil] at e
  exact ⟨e, rfl⟩
def nCall : Pt → Prop
  | .call _ _ => False
  | _ => True
theorem calm_step {fs : List Fu} {sd ce nm wo ws : List Int} {fu : Nat} {td : List (Bool × Th)} {r : List Fr} {tl : Int} {p : Pt} {T' : PT} (st : PStep fs ⟨sd, ce, fu, ⟨nm, (true, .p p) :: td, wo ++ ws⟩ :: r, tl⟩ T') (hp : nCall p) (lw : ws.length = (innerP p).length) :
    ∃ v, Calm p nm ce ws (some v) ∧ T' = ⟨sd, ce, fu, ⟨nm, td, wo ++ [v]⟩ :: r, tl⟩ := by
  generalize e : wo ++ ws = l at st
  cases st with
  | num =>
    obtain ⟨rfl, rfl⟩ := ws0 e lw
    exact ⟨_, .num, rfl⟩
  | name h =>
    obtain ⟨rfl, rfl⟩ := ws0 e lw
    exact ⟨_, .name h, rfl⟩
  | bin ha hb h =>
    obtain ⟨rfl, rfl⟩ := ws2 e lw
    exact ⟨_, h ▸ .bin ha hb, rfl⟩
  | nt =>
    obtain ⟨rfl, rfl⟩ := ws1 e lw
    exact ⟨_, .nt, rfl⟩
  | get h0 h h6 =>
    obtain ⟨rfl, rfl⟩ := ws1 e lw
    exact ⟨_, .get h0 h h6, rfl⟩
  | call => exact hp.elim
theorem calm_ends {fs : List Fu} {sd ce nm wo ws : List Int} {fu : Nat} {td : List (Bool × Th)} {r : List Fr} {tl : Int} {p : Pt} {f : Fi} (en : PEnds fs ⟨sd, ce, fu, ⟨nm, (true, .p p) :: td, wo ++ ws⟩ :: r, tl⟩ f) (hp : nCall p) (lw : ws.length = (innerP p).length) :
    Calm p nm ce ws none ∧ f = ⟨sd, ce, .fault (flt p)⟩ := by
  generalize e : wo ++ ws = l at en
  cases en with
  | bin ha hb h =>
    obtain ⟨rfl, rfl⟩ := ws2 e lw
    exact ⟨h ▸ .bin ha hb, rfl⟩
  | get h =>
    obtain ⟨rfl, rfl⟩ := ws1 e lw
    exact ⟨.getF h, rfl⟩
  | deep => exact hp.elim
  | long => exact hp.elim
theorem wd_ne {p : Pt} (hp : nCall p) : wdT (.p p) ≠ "set" ∧ wdT (.p p) ≠ "put" ∧ wdT (.p p) ≠ "say" ∧ wdT (.p p) ≠ "if" ∧ wdT (.p p) ≠ "while" ∧ wdT (.p p) ≠ "return" ∧ wdT (.p p) ≠ "do" ∧ wdT (.p p) ≠ "call" := by
  cases p with
  | call => exact hp.elim
  | bin op a b => cases op <;> (refine ⟨?_, ?_, ?_, ?_, ?_, ?_, ?_, ?_⟩ <;> (show (_ : Str) ≠ _; simp only [wdT, Op.str]; decide +kernel))
  | num => exact (by decide +kernel : ("num" : Str) ≠ "set" ∧ ("num" : Str) ≠ "put" ∧ ("num" : Str) ≠ "say" ∧ ("num" : Str) ≠ "if" ∧ ("num" : Str) ≠ "while" ∧ ("num" : Str) ≠ "return" ∧ ("num" : Str) ≠ "do" ∧ ("num" : Str) ≠ "call")
  | name => exact (by decide +kernel : ("name" : Str) ≠ "set" ∧ ("name" : Str) ≠ "put" ∧ ("name" : Str) ≠ "say" ∧ ("name" : Str) ≠ "if" ∧ ("name" : Str) ≠ "while" ∧ ("name" : Str) ≠ "return" ∧ ("name" : Str) ≠ "do" ∧ ("name" : Str) ≠ "call")
  | nt => exact (by decide +kernel : ("not" : Str) ≠ "set" ∧ ("not" : Str) ≠ "put" ∧ ("not" : Str) ≠ "say" ∧ ("not" : Str) ≠ "if" ∧ ("not" : Str) ≠ "while" ∧ ("not" : Str) ≠ "return" ∧ ("not" : Str) ≠ "do" ∧ ("not" : Str) ≠ "call")
  | get => exact (by decide +kernel : ("get" : Str) ≠ "set" ∧ ("get" : Str) ≠ "put" ∧ ("get" : Str) ≠ "say" ∧ ("get" : Str) ≠ "if" ∧ ("get" : Str) ≠ "while" ∧ ("get" : Str) ≠ "return" ∧ ("get" : Str) ≠ "do" ∧ ("get" : Str) ≠ "call")
def spFinish (K : PySem.W.Frag) : Sp := fun vs H Q E => ∃ Hb fs ps b d ds sd ce fu nm td wo r tl tv t wl ws, vs = [.ref b.dg, .ref d.fa, tv, .ref wl] ∧ PM K Hb H fs b (d :: ds) ⟨sd, ce, fu, ⟨nm, td, wo⟩ :: r, tl⟩ ∧ WfPs ps fs ∧ Rep K H tv (encT t) ∧ H wl = some (.lst (iv ws)) ∧
  ws.length = (innerT t).length ∧ Sm ⟨sd, ce, fu, ⟨nm, (true, t) :: td, wo ++ ws⟩ :: r, tl⟩ ∧ Res K Hb fs b ⟨sd, ce, fu, ⟨nm, (true, t) :: td, wo ++ ws⟩ :: r, tl⟩ Q E
theorem fn_finish (C : Cn w K mg base) (MF : MkF P w K mg base) (ML : MkL P w K mg base) : Mth P w K mg base (L2.CX P w) 6 (He.ga K "Doing") "finish" ["self", "frame", "thing", "worths"] (spFinish K) := C.f_Doing_finish fun fd F => by
  have F_World_put_in : Mth P w K mg base (L2.CX P w) 4 (He.ga K "World") "put_in" ["self", "cell", "worth"] (spPutIn K) := fn_put_in C MF
  have F_World_spend : Mth P w K mg base (L2.CX P w) 3 (He.ga K "World") "spend" ["self"] (spSpend K) := fn_spend C ML
  have F_World_worth_here : Mth P w K mg base (L2.CX P w) 5 (He.ga K "World") "worth_here" ["self", "row", "names", "worths"] (spWorthHere K) := fn_worth_here C MF
  have F_Frame_lay_ahead : Mth P w K mg base CX0 2 (He.ga K "Frame") "lay_ahead" ["self", "things"] (spLay K) := fn_lay C
  have F_Doing_leave : Mth P w K mg base CX0 2 (He.ga K "Doing") "leave" ["self", "worth"] (spLeave K) := fn_leave C
  have F_Doing_enter : Mth P w K mg base (L2.CX P w) 5 (He.ga K "Doing") "enter" ["self", "fun", "handed"] (spEnter K) := fn_enter C MF ML
  refine F.ok (CX := L2.CX P w) sc_Doing_finish (fun vs H Q E h => ?_) (fun cdv A outer s H vs Q E hr h => ?_)
  · obtain ⟨Hb, fs, ps, b, d, ds, sd, ce, fu, nm, td, wo, r, tl, tv, t, wl, ws, rfl, _⟩ := h
    rfl
  · obtain ⟨Hb, fs, ps, b, d, ds, sd, ce, fu, nm, td, wo, r, tl, tv, t, wl, ws, rfl, pm, W, hv, hwl, lw, sm, res⟩ := h
    refine ⟨_, (pss_one (ps_match (pv 2) (pcs_case (sl := [some 4, none]) (by rfl) sc_Doing_finish.nd rfl (CapOk.cap rfl (Or.inl rfl) (Or.inr rfl) (CapOk.skip CapOk.nil)) (pss_one (ps_asg (pe_ix ix_list (pv 3) pe_int (fun _ _ => rfl)) (pg_sub (pe_fl C.cl_Frame C.na_Frame_names (pv 1)) (pv 4) set_list))) (pcs_case (sl := [none, none]) (by rfl) sc_Doing_finish.nd rfl (CapOk.skip (CapOk.skip CapOk.nil)) (pss_one (ps_expr (pe_mth F_World_put_in C.cl_World (rmm hr) (passes_call (takes_of rfl rfl rfl rfl) (fun _ _ _ _ h => h)) (pe_fl C.cl_Doing C.na_Doing_world (pv 0)) (pa_cons (pe_ix ix_list (pv 3) pe_int (fun _ _ => rfl)) (pa_cons (pe_ix ix_list (pv 3) pe_int (fun _ _ => rfl)) pa_nil))))) (pcs_case (sl := [none]) (by rfl) sc_Doing_finish.nd rfl (CapOk.skip CapOk.nil) (pss_one (ps_expr (pe_bm PySem.F.plainAttrs_list PySem.F.slot_list_append PySem.F.type_list_append mt_append (pe_fl C.cl_World C.na_World_said (pe_fl C.cl_Doing C.na_Doing_world (pv 0))) (pa_cons (pe_ix ix_list (pv 3) pe_int (fun _ _ => rfl)) pa_nil)))) (pcs_case (sl := [none, some 5, some 6]) (by rfl) sc_Doing_finish.nd rfl (CapOk.skip (CapOk.cap rfl (Or.inl rfl) (Or.inr rfl) (CapOk.cap rfl (Or.inl rfl) (Or.inr rfl) CapOk.nil))) (pss_one (ps_expr (pe_mth F_Frame_lay_ahead C.cl_Frame (rmm hr) pass0 (pv 1) (pa_cons (pe_mid (pe_ifExp (pt_cmpR op_eq (pe_ix ix_list (pv 3) pe_int (fun _ _ => rfl)) pe_int (nomark _)) (pv 6) (pv 5))) pa_nil)))) (pcs_case (sl := [none, some 5]) (by rfl) sc_Doing_finish.nd rfl (CapOk.skip (CapOk.cap rfl (Or.inl rfl) (Or.inr rfl) CapOk.nil)) (pss_one (ps_if (pt_cmpR op_ne (pe_ix ix_list (pv 3) pe_int (fun _ _ => rfl)) pe_int (nomark _)) (pss_cons (ps_expr (pe_mth0 F_World_spend C.cl_World (rmm hr) (passes_call (takes_of rfl rfl rfl rfl) (fun _ _ _ _ h => h)) (pe_fl C.cl_Doing C.na_Doing_world (pv 0))))
      (pss_one (ps_expr (pe_mth F_Frame_lay_ahead C.cl_Frame (rmm hr) pass0 (pv 1) (pa_cons (pe_tupC (StX.pa_star (pv 5) (pa_cons (pv 2) pa_nil))) pa_nil))))) pss_nil)) (pcs_case (sl := [none]) (by rfl) sc_Doing_finish.nd rfl (CapOk.skip CapOk.nil) (pss_one (ps_expr (pe_mth F_Doing_leave C.cl_Doing (rmm hr) pass0 (pv 0) (pa_cons (pe_ix ix_list (pv 3) pe_int (fun _ _ => rfl)) pa_nil)))) (pcs_case (sl := [none]) (by rfl) sc_Doing_finish.nd rfl (CapOk.skip CapOk.nil) (pss_one ps_pass) (pcs_case (sl := [some 7, none]) (by rfl) sc_Doing_finish.nd rfl (CapOk.cap rfl (Or.inl rfl) (Or.inr rfl) (CapOk.skip CapOk.nil)) (pss_one (ps_expr (pe_mth F_Doing_enter C.cl_Doing (rmm hr) (passes_call (takes_of rfl rfl rfl rfl) (fun _ _ _ _ h => h)) (pv 0) (pa_cons (pv 7) (pa_cons (pv 3) pa_nil))))) (pcs_wild (pss_one (ps_expr (pe_bm PySem.F.plainAttrs_list PySem.F.slot_list_append PySem.F.type_list_append mt_append (pe_fl C.cl_Frame C.na_Frame_worths (pv 1)) (pa_cons (pe_mth F_World_worth_here C.cl_World (rmm hr) (passes_call (takes_of rfl rfl rfl rfl) (fun _ _ _ _ h => h)) (pe_fl C.cl_Doing C.na_Doing_world (pv 0)) (pa_cons (pv 2) (pa_cons (pe_fl C.cl_Frame C.na_Frame_names (pv 1)) (pa_cons (pv 3) pa_nil)))) pa_nil))))))))))))))), ?_⟩
    have hdg := pm.hdg
    have hwd := pm.hwd
    have hl : SqL K H wl (iv ws) := SqL.of hwl
    have tp := pm.top
    have hfa := tp.fa
    obtain ⟨ta, us, rfl, hS, rs⟩ := thing1 hv
    walk_at "go"
    unfold tMatch
    walk_at "g"
    cases t with
    | d dd =>
      cases dd with
      | set i p =>
        obtain ⟨u1, us, rfl, r1, rs⟩ := rs.consI
        obtain ⟨u2, us, rfl, r2, rs⟩ := rs.consI
        obtain rfl := rs.nilI
        obtain rfl := r1.intI
        refine g_caseY (w := "set") hS rfl ?_
        rcases res with ⟨T', st, sm', q⟩ | ⟨f, en, _⟩
        · generalize e : wo ++ ws = l at st
          cases st with
          | @set _ _ _ _ _ _ v _ _ _ _ hi =>
            obtain ⟨rfl, rfl⟩ := ws1 e lw
            have hna := tp.na
            walk_at "g"
            refine setL_nat hna (by rw [iv_len]; exact hi) ?_
            rw [← iv_set]
            exact q _ _ (pm.setN (nm.set i v))
        · generalize e : wo ++ ws = l at en
          cases en
      | put c p =>
        obtain ⟨u1, us, rfl, r1, rs⟩ := rs.consI
        obtain ⟨u2, us, rfl, r2, rs⟩ := rs.consI
        obtain rfl := rs.nilI
        replace hS : SqT K H ta [V.str "put", u1, u2] := hS
        refine g_caseN hS (by decide +kernel) (g_caseY (w := "put") hS rfl ?_)
        rcases res with ⟨T', st, sm', q⟩ | ⟨f, en, _, xe⟩
        · generalize e : wo ++ ws = l at st
          cases st with
          | @put _ _ _ _ _ _ a v _ _ _ _ h0 h1 h6 =>
            obtain ⟨rfl, rfl⟩ := ws2 e lw
            have hca := pm.hca
            walk_at "g"
            exact ⟨b.wd, b.wx, b.sa, b.ca, (fu : Nat), a, v, ce, rfl, hwd, hca, fun _ => h6, fun _ => q _ _ (pm.setC (ce.set a.toNat v)), fun z => absurd ⟨h0, h1⟩ z⟩
        · generalize e : wo ++ ws = l at en
          cases en with
          | @put _ _ _ _ _ _ a v _ _ _ _ hn =>
            obtain ⟨rfl, rfl⟩ := ws2 e lw
            have hca := pm.hca
            walk_at "g"
            exact ⟨b.wd, b.wx, b.sa, b.ca, (fu : Nat), a, v, ce, rfl, hwd, hca, fun z => absurd z hn, fun z => absurd z hn, fun _ => pm.ft_ xe⟩
      | say p =>
        obtain ⟨u1, us, rfl, r1, rs⟩ := rs.consI
        obtain rfl := rs.nilI
        replace hS : SqT K H ta [V.str "say", u1] := hS
        refine g_caseN hS (by decide +kernel) (g_caseN hS (by decide +kernel) (g_caseY (w := "say") hS rfl ?_))
        rcases res with ⟨T', st, sm', q⟩ | ⟨f, en, _⟩
        · generalize e : wo ++ ws = l at st
          cases st with
          | @say _ _ _ _ _ v =>
            obtain ⟨rfl, rfl⟩ := ws1 e lw
            have hsa := pm.hsa
            have hsz : (iv sd).length < sizeLine := by
              have := sm.said
              rw [iv_len, sizeLine_eq]
              simp only at this
              omega
            walk_at "g"
            rw [show iv sd ++ [V.int v] = iv (sd ++ [v]) from (iv_app sd [v]).symm]
            exact q _ _ (pm.setS (sd ++ [v]))
        · generalize e : wo ++ ws = l at en
          cases en
      | ite p x y =>
        obtain ⟨u1, us, rfl, r1, rs⟩ := rs.consI
        obtain ⟨u2, us, rfl, r2, rs⟩ := rs.consI
        obtain ⟨u3, us, rfl, r3, rs⟩ := rs.consI
        obtain rfl := rs.nilI
        replace hS : SqT K H ta [V.str "if", u1, u2, u3] := hS
        refine g_caseN hS (by decide +kernel) (g_caseN hS (by decide +kernel) (g_caseN hS (by decide +kernel) (g_caseY (w := "if") hS rfl ?_)))
        rcases res with ⟨T', st, sm', q⟩ | ⟨f, en, _⟩
        · generalize e : wo ++ ws = l at st
          cases st with
          | @ite _ _ _ _ _ _ _ v =>
            obtain ⟨rfl, rfl⟩ := ws1 e lw
            obtain ⟨xa, xvs, rfl, hxa, rx⟩ := r2.tupI
            obtain ⟨ya, yvs, rfl, hya, ry⟩ := r3.tupI
            walk_at "g"
            refine g_midE (fun v' H' => v' = .ref (if v = 0 then ya else xa) ∧ H' = H) ?_ ?_
            · walk_at "g"
              by_cases hv0 : v = 0
              · refine tkT (by simp [hv0]) ?_
                walk_at "g"
                rw [if_pos hv0]
                exact ⟨rfl, rfl⟩
              · refine tkF (by simpa using hv0) ?_
                walk_at "g"
                rw [if_neg hv0]
                exact ⟨rfl, rfl⟩
            · rintro _ H1 ⟨rfl, e1⟩
              rw [e1]
              clear e1 H1
              walk_at "g"
              have hta := tp.ta
              have eb : (if v = 0 then y else x).length = (asD (if v = 0 then y else x)).length := by unfold asD; rw [List.length_map]
              have hb : ∃ bvs, SqT K H (if v = 0 then ya else xa) bvs ∧ Reps K H bvs (((if v = 0 then y else x).map Th.d).map encT) := by
                rw [← encB_map]
                by_cases hv0 : v = 0
                · rw [if_pos hv0, if_pos hv0]; exact ⟨_, hya, ry⟩
                · rw [if_neg hv0, if_neg hv0]; exact ⟨_, hxa, rx⟩
              obtain ⟨bvs, hb1, hb2⟩ := hb
              refine ⟨d.fa, d.fx, d.na, d.ta, d.wa, _, d.tv, bvs, (if v = 0 then y else x).map Th.d, rfl, hfa, hta, .inr hb1, hb2, pm.laySz sm' (by rw [List.length_map]; omega), fun H' us c e t => ?_⟩
              rw [lay_asD] at t
              exact q _ _ (pm.laid c e t)
        · generalize e : wo ++ ws = l at en
          cases en
      | whl p x =>
        obtain ⟨u1, us, rfl, r1, rs⟩ := rs.consI
        obtain ⟨u2, us, rfl, r2, rs⟩ := rs.consI
        obtain rfl := rs.nilI
        replace hS : SqT K H ta [V.str "while", u1, u2] := hS
        refine g_caseN hS (by decide +kernel) (g_caseN hS (by decide +kernel) (g_caseN hS (by decide +kernel) (g_caseN hS (by decide +kernel) (g_caseY (w := "while") hS rfl ?_))))
        rcases res with ⟨T', st, sm', q⟩ | ⟨f, en, _, xe⟩
        · generalize e : wo ++ ws = l at st
          cases st with
          | whl0 =>
            obtain ⟨rfl, rfl⟩ := ws1 e lw
            walk_at "g"
            walk_at "no"
            exact q _ _ pm
          | @whl _ _ fu _ _ _ v _ _ _ _ h =>
            obtain ⟨rfl, rfl⟩ := ws1 e lw
            obtain ⟨xa, xvs, rfl, hxa, rx⟩ := r2.tupI
            walk_at "g"
            refine tkT (by simpa using h) ?_
            walk_at "g"
            refine ⟨b.wd, b.wx, b.sa, b.ca, _, rfl, hwd, fun f1 e1 => ?_, fun z => absurd z (Nat.succ_ne_zero _)⟩
            obtain rfl : fu = f1 := Nat.succ.inj e1
            have pm1 := pm.setF fu
            have k1 : Ch K [b.wd] H (upd H b.wd (.ins (He.ga K "World") b.wx (wF b.sa b.ca (fu : Nat)))) := Ch.wr hwd rfl (by simp)
            generalize upd H b.wd (.ins (He.ga K "World") b.wx (wF b.sa b.ca (fu : Nat))) = H1 at pm1 k1 ⊢
            have hxa1 := k1.sqT hxa
            have hfa1 := pm1.top.fa
            walk_at "g"
            unfold StX.tStar
            walk_at "g"
            have lx := rx.len
            rw [encB_map, List.length_map, List.length_map] at lx
            have hz := sm'.fr _ (List.mem_cons_self ..)
            simp only [lenF, List.length_append, asD, List.length_map, List.length_cons] at hz
            refine ⟨by rw [List.length_append, sizeLine_eq]; simp only [List.length_cons, List.length_nil]; omega, fun p2 H2 n2 e2 c2 => ?_⟩
            unfold tNil
            have pm2 := pm1.ch c2
            have eb : encB x ++ [encT (.d (.whl p x))] = ((x.map Th.d) ++ [Th.d (.whl p x)]).map encT := by rw [encB_map, List.map_append]; rfl
            refine ⟨d.fa, d.fx, d.na, d.ta, d.wa, p2, d.tv, _, x.map Th.d ++ [Th.d (.whl p x)], rfl, pm2.top.fa, pm2.top.ta, .inr (SqT.of e2), ?_, pm2.laySz (l := asD x ++ (false, .d (.whl p x)) :: []) (by rw [List.append_assoc]; exact sm') (by rw [List.length_append, List.length_map]; unfold asD; rw [List.length_append, List.length_map]; simp only [List.length_cons, List.length_nil]; omega), fun H' us c e t => ?_⟩
            · rw [← eb]
              exact (rx.kt (k1.kt.trans c2.kt)).append (.cons (hv.kt (k1.kt.trans c2.kt)) .nil)
            · have el : lay (x.map Th.d ++ [Th.d (.whl p x)]) = asD x ++ [(false, .d (.whl p x))] := by
                rw [← lay_asD]
                unfold lay
                rw [List.map_append]
                rfl
              rw [el] at t
              have := pm2.laid c e t
              rw [List.append_assoc] at this
              exact q _ _ this
        · generalize e : wo ++ ws = l at en
          cases en with
          | @longW _ _ _ _ _ v _ _ _ _ h =>
            obtain ⟨rfl, rfl⟩ := ws1 e lw
            walk_at "g"
            refine tkT (by simpa using h) ?_
            walk_at "g"
            exact ⟨b.wd, b.wx, b.sa, b.ca, 0, rfl, hwd, fun f1 e1 => absurd e1 (by omega), fun _ => pm.lg_ xe⟩
      | ret p =>
        obtain ⟨u1, us, rfl, r1, rs⟩ := rs.consI
        obtain rfl := rs.nilI
        replace hS : SqT K H ta [V.str "return", u1] := hS
        refine g_caseN hS (by decide +kernel) (g_caseN hS (by decide +kernel) (g_caseN hS (by decide +kernel) (g_caseN hS (by decide +kernel) (g_caseN hS (by decide +kernel) (g_caseY (w := "return") hS rfl ?_)))))
        rcases res with ⟨T', st, sm', q⟩ | ⟨f, en, _⟩
        · generalize e : wo ++ ws = l at st
          cases st with
          | @ret _ _ _ _ _ v =>
            obtain ⟨rfl, rfl⟩ := ws1 e lw
            walk_at "g"
            refine ⟨Hb, fs, b, d :: ds, sd, ce, fu, _, r, tl, v, rfl, pm, fun g hg => ?_, fun H' ds' p' => q H' ds' p'⟩
            have := sm.fr g (List.mem_cons_of_mem _ hg)
            unfold lenF at this
            omega
        · generalize e : wo ++ ws = l at en
          cases en
      | dop p =>
        obtain ⟨u1, us, rfl, r1, rs⟩ := rs.consI
        obtain rfl := rs.nilI
        replace hS : SqT K H ta [V.str "do", u1] := hS
        refine g_caseN hS (by decide +kernel) (g_caseN hS (by decide +kernel) (g_caseN hS (by decide +kernel) (g_caseN hS (by decide +kernel) (g_caseN hS (by decide +kernel) (g_caseN hS (by decide +kernel) (g_caseY (w := "do") hS rfl ?_))))))
        rcases res with ⟨T', st, sm', q⟩ | ⟨f, en, _⟩
        · generalize e : wo ++ ws = l at st
          cases st with
          | @dop _ _ _ _ _ v =>
            obtain ⟨rfl, rfl⟩ := ws1 e lw
            exact q _ _ pm
        · generalize e : wo ++ ws = l at en
          cases en
    | p p =>
      have hc : nCall p ∨ ∃ f qs, p = .call f qs := by cases p <;> first | exact .inl trivial | exact .inr ⟨_, _, rfl⟩
      rcases hc with hc | ⟨f, qs, rfl⟩
      · obtain ⟨n1, n2, n3, n4, n5, n6, n7, n8⟩ := wd_ne hc
        refine g_caseN hS n1 (g_caseN hS n2 (g_caseN hS n3 (g_caseN hS n4 (g_caseN hS n5 (g_caseN hS n6 (g_caseN hS n7 (g_caseN hS n8 ?_)))))))
        have hwa := tp.wa
        have hna := tp.na
        have hca := pm.hca
        walk_at "g"
        rcases res with ⟨T', st, sm', q⟩ | ⟨f, en, _, xe⟩
        · obtain ⟨v, cm, rfl⟩ := calm_step st hc lw
          refine ⟨b.wd, b.wx, b.sa, b.ca, (fu : Nat), _, d.na, wl, p, nm, ce, ws, some v, rfl, hwd, hca, hv, hna, hwl, cm, fun v' ev H' c' => ?_, fun z => by cases z⟩
          obtain rfl := Option.some.inj ev
          have pm1 := pm.ch c'
          have hwa1 := pm1.top.wa
          have hsz : (iv wo).length < sizeLine := by
            have := sm.fr _ (List.mem_cons_self ..)
            simp only [lenF, List.length_append] at this
            rw [iv_len, sizeLine_eq]
            omega
          unfold tNil
          refine g_app hwa1 hsz ?_
          rw [show iv wo ++ [V.int v] = iv (wo ++ [v]) from (iv_app wo [v]).symm]
          exact q _ _ (pm1.setW (wo ++ [v]))
        · obtain ⟨cm, rfl⟩ := calm_ends en hc lw
          exact ⟨b.wd, b.wx, b.sa, b.ca, (fu : Nat), _, d.na, wl, p, nm, ce, ws, none, rfl, hwd, hca, hv, hna, hwl, cm, fun v' ev => (by cases ev), fun _ H' c' => (pm.ch c').ft_ xe⟩
      · obtain ⟨u1, us, rfl, r1, rs⟩ := rs.consI
        obtain ⟨u2, us, rfl, r2, rs⟩ := rs.consI
        obtain rfl := rs.nilI
        obtain rfl := r1.intI
        replace hS : SqT K H ta [V.str "call", V.int (f : Nat), u2] := hS
        refine g_caseN hS (by decide +kernel) (g_caseN hS (by decide +kernel) (g_caseN hS (by decide +kernel) (g_caseN hS (by decide +kernel) (g_caseN hS (by decide +kernel) (g_caseN hS (by decide +kernel) (g_caseN hS (by decide +kernel) (g_caseY (w := "call") hS rfl ?_)))))))
        walk_at "g"
        have h61 := sm.n
        rcases res with ⟨T', st, sm', q⟩ | ⟨fi, en, _, xe⟩
        · generalize e : wo ++ ws = l at st
          cases st with
          | @call _ _ fu _ _ _ fn ws' _ wo' _ _ hf hcl hl hp =>
            obtain ⟨rfl, rfl⟩ := List.append_inj' e (lw.trans hl.symm)
            refine ⟨Hb, fs, b, d :: ds, sd, ce, fu + 1, _, tl, wl, f, ws, rfl, pm, h61, by simp, hwl, fun _ fu' e' => ?_, fun _ z => absurd z (Nat.succ_ne_zero _), fun z => ?_⟩
            · obtain rfl := Nat.succ.inj e'
              have hm := List.mem_of_getElem? hf
              refine ⟨fn, hf, hp, W.pn _ hm, W.n8 _ hm, ?_, fun H' ds' p' => q H' ds' p'⟩
              have := sm'.fr _ (List.mem_cons_self ..)
              simp only [lenF, asD, List.length_map, List.length_nil] at this
              omega
            · simp only [List.length_cons] at z
              omega
        · generalize e : wo ++ ws = l at en
          cases en with
          | @deep _ _ _ _ _ _ ws' _ wo' _ _ h60 hl =>
            obtain ⟨rfl, rfl⟩ := List.append_inj' e (lw.trans hl.symm)
            exact ⟨Hb, fs, b, d :: ds, sd, ce, fu, _, tl, wl, f, ws, rfl, pm, h61, by simp, hwl, fun z => absurd z (by simp only [List.length_cons]; omega), fun z => absurd z (by simp only [List.length_cons]; omega), fun _ => pm.ft_ xe⟩
          | @long _ _ _ _ _ ws' _ wo' _ _ h60 hl =>
            obtain ⟨rfl, rfl⟩ := List.append_inj' e (lw.trans hl.symm)
            exact ⟨Hb, fs, b, d :: ds, sd, ce, 0, _, tl, wl, f, ws, rfl, pm, h61, by simp, hwl, fun _ fu' z => absurd z (Nat.succ_ne_zero _).symm, fun _ _ => pm.lg_ xe, fun z => absurd z (by simp only [List.length_cons]; omega)⟩
end
end K3
end

section
set_option maxRecDepth 100000
set_option maxHeartbeats 1000000
open Bq L2
/-- one step of a reading; what is left are side goals and places to think -/
local macro_rules | `(tactic| walk_at "g1") => `(tactic| first
  | with_reducible refine' g_seq ?_ | with_reducible refine' g_asg ?_ | with_reducible refine' g_drop ?_ | with_reducible refine' g_ret ?_ | with_reducible refine' g_ifS ?_ | with_reducible refine' g_asgG ?_
  | ((with_reducible refine' g_var ?hv ?_); (case hv => rfl))
  | with_reducible refine' g_c ?_ | with_reducible refine' g_op ?_ | with_reducible refine' g_un ?_ | with_reducible refine' g_I0 ?_ | with_reducible refine' g_U ?_
  | with_reducible refine' g_test ?_ | with_reducible refine' g_tB ?_ | with_reducible refine Exists.intro _ (And.intro rfl ?_) 
  | ((with_reducible refine' g_andP ?ha ?hb ?_); (case ha => intro R q; walk_at "g"; exact q); (case hb => intro R q; walk_at "g"; exact q))
  | ((with_reducible refine' g_orP ?ha ?hb ?_); (case ha => intro R q; walk_at "g"; exact q); (case hb => intro R q; walk_at "g"; exact q))
  | with_reducible refine' g_and ?_ | with_reducible refine' g_or ?_ | with_reducible refine' g_not ?_
  | with_reducible refine' g_andV ?_ | with_reducible refine' g_orV ?_ | with_reducible refine' g_notV ?_ | with_reducible refine' g_if ?_ | with_reducible refine' g_nil ?_ | with_reducible refine' g_cons ?_
  | with_reducible refine' g_tup ?_ | with_reducible refine' g_lst ?_ | with_reducible refine' g_CB ?_ | with_reducible refine' g_Fn ?_ | with_reducible refine' g_next ?_ | with_reducible refine' g_retN ?_
  | with_reducible refine' g_name ?_ | with_reducible refine' g_sub ?_
  | ((with_reducible refine' g_ixL ?hs ?he ?_); (case hs => walk_at "lk"); (case he => walk_at "at"))
  | ((with_reducible refine' g_ixT ?hs ?he ?_); (case hs => walk_at "lk"); (case he => walk_at "at"))
  | ((with_reducible refine' g_setL ?hs ?he ?_); (case hs => walk_at "hp"); (case he => rfl))
  | ((with_reducible refine' g_app ?hs ?hz ?_); (case hs => walk_at "hp"); (case hz => walk_at "sz"))
  | ((with_reducible refine' ⟨_, _, rfl, Or.inl ?hs, ?_⟩); (case hs => walk_at "lk"))
  | ((with_reducible refine' ⟨_, _, rfl, Or.inr ?hs, ?_⟩); (case hs => walk_at "lk"))
  | with_reducible refine' g_BM ?_ | with_reducible refine' g_BM0 ?_ | ((with_reducible refine' g_tyL ?hs ?_); (case hs => walk_at "lk"))
  | with_reducible refine' g_sl ?_ | with_reducible refine' g_noPart ?_ | with_reducible refine' g_part ?_
  | ((with_reducible refine' g_inT ?hs ?fx ?fs ?_); (case hs => walk_at "lk"); (case fx => rfl); (case fs => rfl))
  | with_reducible refine' g_pair ?_ | with_reducible refine' g_pair0 ?_ | with_reducible refine' g_disp ?_
  | with_reducible refine' g_for ?_ | with_reducible refine' g_tupC ?_ | with_reducible refine' g_lstC ?_ | ((with_reducible refine' g_lens ?_)) | with_reducible refine' g_dg ?_ | with_reducible refine' g_lc ?_ | with_reducible refine' g_rng1 ?_ | with_reducible refine' g_ilist ?_ | with_reducible refine' g_itup ?_
  | ((with_reducible refine' ⟨_, _, rfl, ?hd, ?_⟩); (case hd => walk_at "dg"))
  | ((with_reducible refine' g_eqNil ?hs ?hz ?_); (case hs => walk_at "lk"); (case hz => walk_at "lk"))
  | ((with_reducible refine' g_neNil ?hs ?hz ?_); (case hs => walk_at "lk"); (case hz => walk_at "lk"))
  | with_reducible refine Or.inl ⟨_, rfl, ?_⟩
  | with_reducible refine Or.inr ⟨_, rfl, ?_⟩
  | ((with_reducible refine' g_eq ?hs ?_); (case hs => rfl))
  | ((with_reducible refine' g_ne ?hs ?_); (case hs => rfl))
  | ((with_reducible refine' g_I ?hc ?_); (case hc => walk_at "ar")))
/-- arithmetic's side conditions -/
local macro_rules | `(tactic| walk_at "ar") => `(tactic| (first
  | (show (0 : Int) < _; first | omega | decide) | (show (0 : Int) < _ ∧ _; constructor <;> omega) | (show ¬ (_ : Int) = _; omega) | (show (_ : Int) ≠ _ ∧ _; constructor <;> omega)
  | (show (-(2 ^ 64) < _ ∧ _) ∨ _; (first | (left; constructor <;> omega) | (right; constructor <;> omega))) | (show (0 : Int) ≤ _ ∧ _ ∧ _; refine ⟨by omega, by omega, by decide⟩)))
/-- what stands at an index -/
local macro_rules | `(tactic| walk_at "at") => `(tactic| first | rfl | assumption)
/-- what stands at an address -/
local macro_rules | `(tactic| walk_at "hp") => `(tactic| first | assumption | exact upd_same | ((refine' Eq.trans (upd_ne ?hn) ?hm); (case hm => walk_at "hp"); (case hn => walk_at "ne")))
/-- two places are two -/
local macro_rules | `(tactic| walk_at "ne") => `(tactic| first
  | assumption | exact Ne.symm (by assumption)
  | ((refine' ne_of_none ?ha ?hb); (case hb => assumption); (case ha => walk_at "hp")) | ((refine' Ne.symm (ne_of_none ?ha ?hb)); (case hb => assumption); (case ha => walk_at "hp")))
/-- what a dict tells -/
local macro_rules | `(tactic| walk_at "dg") => `(tactic| first | assumption)
/-- a length -/
local macro_rules | `(tactic| walk_at "sz") => `(tactic| first | (show _ ≤ sizeLine; decide) | (show _ < sizeLine; decide) | assumption | exact szlt (by simp) | exact szle (by simp))
/-- a list or tuple that stands -/
local macro_rules | `(tactic| walk_at "lk") => `(tactic| first | assumption | exact SqL.of (by assumption) | exact SqT.of (by assumption) | exact SqL.of upd_same | exact SqT.of upd_same | (refine' FzL.sq ?hm; (case hm => walk_at "fz")))
/-- a list that nobody writes -/
local macro_rules | `(tactic| walk_at "fz") => `(tactic| first | assumption | ((refine' FzL.uw ?hm ?hx); (case hx => walk_at "hp"); (case hm => walk_at "fz")) | ((refine' FzL.nw ?hm ?hx); (case hx => assumption); (case hm => walk_at "fz")))
/-- as far as it goes by itself -/
local macro_rules | `(tactic| walk_at "g") => `(tactic| repeat walk_at "g1")
/-- the body's reading, its places in short -/
local macro_rules | `(tactic| walk_at "go") => `(tactic| ((try dsimp only [cxOf, Cx.nox, Cx.wish]); walk_at "g"))
namespace K3
open PySem PySem.Spec PyProof.Rows L2 Bq
section
variable {P : Program} {w : World} {K : PySem.W.Frag} {mg : Str → Option Value} {base : Heap}
/-- further steps: dicts written, tuples taken apart -/
local macro_rules | `(tactic| walk_at "g1") => `(tactic| first
  | with_reducible refine' g_sdput ?_
  | ((with_reducible refine' g_gtup ?hs ?hl ?_); (case hs => walk_at "lk"); (case hl => rfl))
  | with_reducible refine' g_gcons ?_
  | with_reducible refine' g_gnil ?_
  | with_reducible refine' And.intro (Eq.refl V.non) ?_
  | with_reducible refine' g_isN ?_
  | ((with_reducible refine' g_chainR ?ha ?hb ?hc ?_); (case ha => intro R q; walk_at "g"; exact q); (case hb => intro R q; walk_at "g"; exact q); (case hc => intro R q; walk_at "g"; exact q))
  | with_reducible refine' g_notN ?_)
/-- what the law's dict tells -/
local macro_rules | `(tactic| walk_at "dg") => `(tactic| first
  | assumption
  | exact LH.gfuns (by assumption)
  | exact LH.gsaid (by assumption)
  | exact LH.gcells (by assumption)
  | exact LH.gfuel (by assumption)
  | exact LH.gend (by assumption)
  | exact LH.gcalls (by assumption)
  | exact LH.gnames (by assumption)
  | exact LH.gwaits (by assumption)
  | exact LH.gworth (by assumption)
  | exact LH.glook (by assumption))
/-- a test that fails, that holds, by itself -/
local macro_rules | `(tactic| walk_at "no") => `(tactic| ((refine tkF rfl ?_); walk_at "g"))
local macro_rules | `(tactic| walk_at "yes") => `(tactic| ((refine tkT rfl ?_); walk_at "g"))
/-- fields, methods -/
local macro_rules | `(tactic| walk_at "g1") => `(tactic| first
  | with_reducible refine' g_fl0 ?_
  | ((with_reducible refine' g_fl ?he ?hl ?_); (case he => walk_at "hp"); (case hl => rfl))
  | with_reducible refine' g_sfl0 ?_
  | with_reducible refine' g_sag0 ?_
  | with_reducible refine' g_mth0 ?_
  | ((with_reducible refine' g_mth ?he ?hl ?_); (case he => walk_at "hp"); (case hl => rfl))
  | with_reducible refine' g_mkI ?_
  | ((with_reducible refine' g_chainG ?ha ?hb ?hc ?_); (case ha => intro R q; walk_at "g"; exact q); (case hb => intro R q; walk_at "g"; exact q); (case hc => intro R q; walk_at "g"; exact q)))
/-! ### a step, all steps -/
theorem split_step {fs : List Fu} {sd ce nm wo : List Int} {fu : Nat} {td : List (Bool × Th)} {r : List Fr} {tl : Int} {t : Th} {T' : PT} (st : PStep fs ⟨sd, ce, fu, ⟨nm, (true, t) :: td, wo⟩ :: r, tl⟩ T') : ∃ w1 w2, wo = w1 ++ w2 ∧ w2.length = (innerT t).length := by
  cases st with
  | num => exact ⟨wo, [], by simp, rfl⟩
  | name h => exact ⟨wo, [], by simp, rfl⟩
  | bin => exact ⟨_, _, rfl, rfl⟩
  | nt => exact ⟨_, _, rfl, rfl⟩
  | get => exact ⟨_, _, rfl, rfl⟩
  | call _ _ hl => exact ⟨_, _, rfl, hl⟩
  | set => exact ⟨_, _, rfl, rfl⟩
  | put => exact ⟨_, _, rfl, rfl⟩
  | say => exact ⟨_, _, rfl, rfl⟩
  | ite => exact ⟨_, _, rfl, rfl⟩
  | whl0 => exact ⟨_, _, rfl, rfl⟩
  | whl => exact ⟨_, _, rfl, rfl⟩
  | ret => exact ⟨_, _, rfl, rfl⟩
  | dop => exact ⟨_, _, rfl, rfl⟩
theorem split_ends {fs : List Fu} {sd ce nm wo : List Int} {fu : Nat} {td : List (Bool × Th)} {r : List Fr} {tl : Int} {t : Th} {f : Fi} (en : PEnds fs ⟨sd, ce, fu, ⟨nm, (true, t) :: td, wo⟩ :: r, tl⟩ f) : ∃ w1 w2, wo = w1 ++ w2 ∧ w2.length = (innerT t).length := by
  cases en with
  | bin => exact ⟨_, _, rfl, rfl⟩
  | get => exact ⟨_, _, rfl, rfl⟩
  | put => exact ⟨_, _, rfl, rfl⟩
  | deep _ hl => exact ⟨_, _, rfl, hl⟩
  | long _ hl => exact ⟨_, _, rfl, hl⟩
  | longW => exact ⟨_, _, rfl, rfl⟩
def spStep (K : PySem.W.Frag) : Sp := fun vs H Q E => ∃ Hb fs ps b d ds sd ce fu nm bb t td wo r tl, vs = [.ref b.dg, .ref d.fa] ∧ PM K Hb H fs b (d :: ds) ⟨sd, ce, fu, ⟨nm, (bb, t) :: td, wo⟩ :: r, tl⟩ ∧ WfPs ps fs ∧
  Sm ⟨sd, ce, fu, ⟨nm, (bb, t) :: td, wo⟩ :: r, tl⟩ ∧ Res K Hb fs b ⟨sd, ce, fu, ⟨nm, (bb, t) :: td, wo⟩ :: r, tl⟩ Q E
theorem fn_step (C : Cn w K mg base) (MF : MkF P w K mg base) (ML : MkL P w K mg base) : Mth P w K mg base (L2.CX P w) 7 (He.ga K "Doing") "step" ["self", "frame"] (spStep K) := C.f_Doing_step fun fd F => by
  have F_Doing_finish : Mth P w K mg base (L2.CX P w) 6 (He.ga K "Doing") "finish" ["self", "frame", "thing", "worths"] (spFinish K) := fn_finish C MF ML
  have F_Frame_take_worths : Mth P w K mg base CX0 2 (He.ga K "Frame") "take_worths" ["self", "many"] (spTake K) := fn_take C
  have F_Frame_lay_ahead : Mth P w K mg base CX0 2 (He.ga K "Frame") "lay_ahead" ["self", "things"] (spLay K) := fn_lay C
  have F_parts_of : Fn P w K mg base CX0 2 "parts_of" ["thing"] (spInner K) := fn_parts C
  refine F.ok (CX := L2.CX P w) sc_Doing_step (fun vs H Q E h => ?_) (fun cdv A outer s H vs Q E hr h => ?_)
  · obtain ⟨Hb, fs, ps, b, d, ds, sd, ce, fu, nm, bb, t, td, wo, r, tl, rfl, _⟩ := h
    rfl
  · obtain ⟨Hb, fs, ps, b, d, ds, sd, ce, fu, nm, bb, t, td, wo, r, tl, rfl, pm, W, sm, res⟩ := h
    refine ⟨_, (pss_cons (ps_asg (pe_bm0 PySem.F.plainAttrs_list PySem.F.slot_list_pop PySem.F.type_list_pop mt_pop (pe_fl C.cl_Frame C.na_Frame_todo (pv 1))) (pg_tup rfl (pgs_cons (pg_name (i := 2) sc_Doing_step.nd rfl (Or.inl rfl)) (pgs_cons (pg_name (i := 3) sc_Doing_step.nd rfl (Or.inl rfl)) pgs_nil))))
      (pss_one (ps_if (pt_val (pv 2)) (pss_one (ps_expr (pe_mth F_Doing_finish C.cl_Doing (rmm hr) (passes_call (takes_of rfl rfl rfl rfl) (fun _ _ _ _ h => h)) (pv 0) (pa_cons (pv 1) (pa_cons (pv 3) (pa_cons (pe_mth F_Frame_take_worths C.cl_Frame (rmm hr) pass0 (pv 1) (pa_cons (pe_callB call_len_seq (by rfl) (C.m_len) PySem.boot_len (pa_cons (pe_fn F_parts_of (rmm hr) (by rfl) pass0 (pa_cons (pv 3) pa_nil)) pa_nil)) pa_nil)) pa_nil)))))) (pss_cons (ps_expr (pe_bm PySem.F.plainAttrs_list PySem.F.slot_list_append PySem.F.type_list_append mt_append (pe_fl C.cl_Frame C.na_Frame_todo (pv 1)) (pa_cons (pe_tupC (pa_cons pe_bl (pa_cons (pv 3) pa_nil))) pa_nil)))
      (pss_one (ps_expr (pe_mth F_Frame_lay_ahead C.cl_Frame (rmm hr) pass0 (pv 1) (pa_cons (pe_fn F_parts_of (rmm hr) (by rfl) pass0 (pa_cons (pv 3) pa_nil)) pa_nil)))))))), ?_⟩
    have hdg := pm.hdg
    have tp := pm.top
    have hfa := tp.fa
    have hta := tp.ta
    have htd := tp.td
    simp only [List.reverse_cons] at htd
    obtain ⟨us, v, etv, t1, p, u, rfl, hp, ru⟩ := htd.snoc
    rw [etv] at hta
    walk_at "go"
    refine ⟨d.ta, _, .ref p, rfl, rfl, hta, by rw [List.length_append]; simp, ?_⟩
    rw [List.dropLast_concat]
    have c1 : Ch K [d.ta] H (upd H d.ta (.lst us)) := Ch.wr hta rfl (by simp)
    have pm1 := pm.setT (td' := td) c1 upd_same (t1.kt c1.kt)
    generalize upd H d.ta (.lst us) = H1 at c1 pm1 ⊢
    have hp1 := c1.sqT hp
    have ru1 := ru.kt c1.kt
    have hdg1 := pm1.hdg
    have hfa1 : H1 d.fa = some (.ins (He.ga K "Frame") d.fx (fF d.na d.ta d.wa)) := pm1.top.fa
    have hta1 : H1 d.ta = some (.lst us) := pm1.top.ta
    walk_at "g"
    cases bb with
    | true =>
      have sp : ∃ w1 w2, wo = w1 ++ w2 ∧ w2.length = (innerT t).length := by
        rcases res with ⟨T', st, _⟩ | ⟨f, en, _⟩
        · exact split_step st
        · exact split_ends en
      obtain ⟨w1, w2, rfl, lw⟩ := sp
      refine tkT rfl ?_
      walk_at "g"
      refine ⟨u, t, rfl, ru1, fun H2 l vs2 c2 nl el rl => ?_⟩
      have pm2 := pm1.ch c2
      have hl2 : SqL K H2 l vs2 := SqL.of el
      have e2 : ((vs2.length : Nat) : Int) = (w2.length : Nat) := by rw [rl.len, encPs_len, lw]
      have hfa2 : H2 d.fa = some (.ins (He.ga K "Frame") d.fx (fF d.na d.ta d.wa)) := pm2.top.fa
      walk_at "g"
      rw [e2]
      refine ⟨d.fa, d.fx, d.na, d.ta, d.wa, w1, w2, rfl, hfa2, pm2.top.wa, ?_, fun H3 p3 c3 e3 n3 e3' => ?_⟩
      · have := sm.fr _ (List.mem_cons_self ..)
        simp only [lenF, List.length_append] at this ⊢
        omega
      · unfold tNil
        exact ⟨Hb, fs, ps, b, ⟨d.fa, d.fx, d.na, d.ta, d.wa, us⟩, ds, sd, ce, fu, nm, td, w1, r, tl, u, t, p3, w2, rfl, pm2.setWc c3 e3, W, ru1.kt (c2.kt.trans c3.kt), e3', lw, sm, res⟩
    | false =>
      refine tkF rfl ?_
      rcases res with ⟨T', st, sm', q⟩ | ⟨f, en, _⟩
      · cases st with
        | opn =>
          have lus := t1.len
          rw [List.length_reverse] at lus
          have hz := sm'.fr _ (List.mem_cons_self ..)
          simp only [lenF, List.length_append, List.length_cons, asP, List.length_map] at hz
          have hsz : us.length < sizeLine := by rw [lus, sizeLine_eq]; omega
          walk_at "g"
          refine ⟨szle (by simp), fun p2 H2 n2 ep2 c2 => ?_⟩
          have pm2 := pm1.ch c2
          have hta2 : H2 d.ta = some (.lst us) := pm2.top.ta
          unfold tNil
          refine g_app hta2 hsz ?_
          have c3 : Ch K [d.ta] H2 (upd H2 d.ta (.lst (us ++ [.ref p2]))) := Ch.wr hta2 rfl (by simp)
          have pm3 := pm2.laid (us := [.ref p2]) (l := [(true, t)]) c3 upd_same (.cons ⟨p2, u, rfl, c3.kt.t _ _ (SqT.of ep2), ru1.kt (c2.kt.trans c3.kt)⟩ .nil)
          generalize upd H2 d.ta (.lst (us ++ [.ref p2])) = H3 at c3 pm3 ⊢
          have hfa3 : H3 d.fa = some (.ins (He.ga K "Frame") d.fx (fF d.na d.ta d.wa)) := pm3.top.fa
          have ru3 := ru1.kt (c2.kt.trans c3.kt)
          walk_at "g"
          refine ⟨u, t, rfl, ru3, fun H4 l vs4 c4 nl el rl => ?_⟩
          have pm4 := pm3.ch c4
          have hta3 : H3 d.ta = some (.lst (us ++ [.ref p2])) := pm3.top.ta
          show spLay K _ H4 _ _
          refine ⟨d.fa, d.fx, d.na, d.ta, d.wa, l, us ++ [.ref p2], vs4, (innerT t).map Th.p, rfl, pm4.top.fa, pm4.top.ta, .inl ⟨SqL.of el, (ne_of_none hta3 nl).symm⟩, by rw [← encPs_map]; exact rl, ?_, fun H5 us5 c5 e5 t5 => ?_⟩
          · rw [List.length_append, List.length_map, lus]
            simp only [List.length_cons, List.length_nil]
            omega
          · rw [lay_asP] at t5
            have := pm4.laid c5 e5 t5
            exact q _ _ this
      · cases en
theorem run_sm {fs : List Fu} {n : Nat} {T : PT} {f : Fi} (r : PRun fs n T f) : Sm T := by
  cases r with
  | fin s _ => exact s
  | step s _ _ => exact s
def spTold (K : PySem.W.Frag) : Sp := fun vs H Q E => ∃ Hb fs ps b ds T n f, vs = [.ref b.dg] ∧ PM K Hb H fs b ds T ∧ WfPs ps fs ∧ PRun fs n T f ∧ (∀ H' v T', f.en = .worth v → PM K Hb H' fs b [] T' → T'.said = f.said → T'.cells = f.cells → Q (.int v) H') ∧ XE' K Hb fs b E f
theorem fn_told (C : Cn w K mg base) (MF : MkF P w K mg base) (ML : MkL P w K mg base) : Mth P w K mg base (L2.CX P w) 8 (He.ga K "Doing") "told_at_last" ["self"] (spTold K) := C.f_Doing_told_at_last fun fd F => by
  have F_Doing_step : Mth P w K mg base (L2.CX P w) 7 (He.ga K "Doing") "step" ["self", "frame"] (spStep K) := fn_step C MF ML
  have F_Doing_leave : Mth P w K mg base CX0 2 (He.ga K "Doing") "leave" ["self", "worth"] (spLeave K) := fn_leave C
  refine F.ok (CX := L2.CX P w) sc_Doing_told_at_last (fun vs H Q E h => ?_) (fun cdv A outer s H vs Q E hr h => ?_)
  · obtain ⟨Hb, fs, ps, b, ds, T, n, f, rfl, _⟩ := h
    rfl
  · obtain ⟨Hb, fs, ps, b, ds, T, n, f, rfl, pm, W, run, q, xe⟩ := h
    refine ⟨_, (pss_cons (ps_while (passes_of rfl) (pt_truth (pe_fl C.cl_Doing C.na_Doing_frames (pv 0)) (by intro _; rfl)) (pss_cons (ps_set (i := 1) sc_Doing_told_at_last.nd rfl (Or.inl rfl) (pe_ix ix_list (pe_fl C.cl_Doing C.na_Doing_frames (pv 0)) (pe_un un_neg pe_int) (fun _ _ => rfl)))
      (pss_one (ps_if (pt_truth (pe_fl C.cl_Frame C.na_Frame_todo (pv 1)) (by intro _; rfl)) (pss_one (ps_expr (pe_mth F_Doing_step C.cl_Doing (rmm hr) (passes_call (takes_of rfl rfl rfl rfl) (fun _ _ _ _ h => h)) (pv 0) (pa_cons (pv 1) pa_nil)))) (pss_one (ps_expr (pe_mth F_Doing_leave C.cl_Doing (rmm hr) pass0 (pv 0) (pa_cons pe_int pa_nil))))))))
      (pss_one (ps_ret (pe_fl C.cl_Doing C.na_Doing_told (pv 0))))), ?_⟩
    walk_at "go"
    refine g_while ⟨fun m σ' H' => ∃ x ds T, σ' = [some (.ref b.dg), x] ∧ PM K Hb H' fs b ds T ∧ PRun fs m T f, ⟨n, none, ds, T, rfl, pm, run⟩, ?_⟩
    rintro m _ H1 ⟨x, ds, T, rfl, pm, run⟩
    have hdg := pm.hdg
    have hfl := pm.hfl
    have hl : SqL K H1 b.fl (flV ds) := SqL.of hfl
    have sm := run_sm run
    have ld := pm.ft.len
    walk_at "g"
    obtain ⟨sd, ce, fu, fr, tl⟩ := T
    cases fr with
    | nil =>
      obtain rfl : ds = [] := List.length_eq_zero_iff.mp ld
      refine ⟨_, .inl ⟨_, hl, rfl⟩, tkF rfl ?_⟩
      walk_at "g"
      cases run with
      | fin s h =>
        cases h with
        | over => exact q H1 _ _ rfl pm rfl rfl
      | step s h r => cases h
    | cons g r =>
      obtain ⟨d, ds, rfl, _⟩ := pm.ds1
      obtain ⟨nm, td, wo⟩ := g
      have tp := pm.top
      have hlast := atI_last (flV ds) (.ref d.fa)
      rw [← flV_cons] at hlast
      have hfa := tp.fa
      have hta : SqL K H1 d.ta d.tv := SqL.of tp.ta
      have ltv := tp.td.len
      rw [List.length_reverse] at ltv
      refine ⟨_, .inl ⟨_, hl, rfl⟩, tkT (by rw [flV_cons]; cases flV ds <;> rfl) ?_⟩
      refine ⟨fun σ' H' => ∃ m', m' < m ∧ ∃ x ds T, σ' = [some (.ref b.dg), x] ∧ PM K Hb H' fs b ds T ∧ PRun fs m' T f, fun σ' H' h => h, ?_⟩
      walk_at "g"
      cases td with
      | nil =>
        have etv : d.tv = [] := List.length_eq_zero_iff.mp ltv
        refine ⟨_, .inl ⟨_, hta, rfl⟩, tkF (by rw [etv]; rfl) ?_⟩
        walk_at "g"
        cases run with
        | fin s h => cases h
        | @step _ _ n' _ s h r' =>
          cases h with
          | leave =>
            refine ⟨Hb, fs, b, d :: ds, sd, ce, fu, _, r, tl, 0, rfl, pm, fun g hg => ?_, fun H' ds' p' => ?_⟩
            · have := sm.fr g (List.mem_cons_of_mem _ hg)
              unfold lenF at this
              omega
            · exact ⟨n', Nat.lt_succ_self _, _, ds', _, rfl, p', r'⟩
      | cons e td =>
        obtain ⟨bb, t⟩ := e
        refine ⟨_, .inl ⟨_, hta, rfl⟩, tkT (by cases e : d.tv with | nil => rw [e] at ltv; cases ltv | cons => rfl) ?_⟩
        walk_at "g"
        refine ⟨Hb, fs, ps, b, d, ds, sd, ce, fu, nm, bb, t, td, wo, r, tl, rfl, pm, W, sm, ?_⟩
        cases run with
        | fin s h => exact .inr ⟨f, h, by simp, xe⟩
        | @step _ T' n' _ s h r' => exact .inl ⟨T', h, run_sm r', fun H' ds' p' => ⟨n', Nat.lt_succ_self _, _, ds', T', rfl, p', r'⟩⟩
end
end K3
end

section
set_option maxRecDepth 100000
set_option maxHeartbeats 1000000
open Bq L2
/-- one step of a reading; what is left are side goals and places to think -/
local macro_rules | `(tactic| walk_at "g1") => `(tactic| first
  | with_reducible refine' g_seq ?_ | with_reducible refine' g_asg ?_ | with_reducible refine' g_drop ?_ | with_reducible refine' g_ret ?_ | with_reducible refine' g_ifS ?_ | with_reducible refine' g_asgG ?_
  | ((with_reducible refine' g_var ?hv ?_); (case hv => rfl))
  | with_reducible refine' g_c ?_ | with_reducible refine' g_op ?_ | with_reducible refine' g_un ?_ | with_reducible refine' g_I0 ?_ | with_reducible refine' g_U ?_
  | with_reducible refine' g_test ?_ | with_reducible refine' g_tB ?_ | with_reducible refine Exists.intro _ (And.intro rfl ?_) 
  | ((with_reducible refine' g_andP ?ha ?hb ?_); (case ha => intro R q; walk_at "g"; exact q); (case hb => intro R q; walk_at "g"; exact q))
  | ((with_reducible refine' g_orP ?ha ?hb ?_); (case ha => intro R q; walk_at "g"; exact q); (case hb => intro R q; walk_at "g"; exact q))
  | with_reducible refine' g_and ?_ | with_reducible refine' g_or ?_ | with_reducible refine' g_not ?_
  | with_reducible refine' g_andV ?_ | with_reducible refine' g_orV ?_ | with_reducible refine' g_notV ?_ | with_reducible refine' g_if ?_ | with_reducible refine' g_nil ?_ | with_reducible refine' g_cons ?_
  | with_reducible refine' g_tup ?_ | with_reducible refine' g_lst ?_ | with_reducible refine' g_CB ?_ | with_reducible refine' g_Fn ?_ | with_reducible refine' g_next ?_ | with_reducible refine' g_retN ?_
  | with_reducible refine' g_name ?_ | with_reducible refine' g_sub ?_
  | ((with_reducible refine' g_ixL ?hs ?he ?_); (case hs => walk_at "lk"); (case he => walk_at "at"))
  | ((with_reducible refine' g_ixT ?hs ?he ?_); (case hs => walk_at "lk"); (case he => walk_at "at"))
  | ((with_reducible refine' g_setL ?hs ?he ?_); (case hs => walk_at "hp"); (case he => rfl))
  | ((with_reducible refine' g_app ?hs ?hz ?_); (case hs => walk_at "hp"); (case hz => walk_at "sz"))
  | ((with_reducible refine' ⟨_, _, rfl, Or.inl ?hs, ?_⟩); (case hs => walk_at "lk"))
  | ((with_reducible refine' ⟨_, _, rfl, Or.inr ?hs, ?_⟩); (case hs => walk_at "lk"))
  | with_reducible refine' g_BM ?_ | with_reducible refine' g_BM0 ?_ | ((with_reducible refine' g_tyL ?hs ?_); (case hs => walk_at "lk"))
  | with_reducible refine' g_sl ?_ | with_reducible refine' g_noPart ?_ | with_reducible refine' g_part ?_
  | ((with_reducible refine' g_inT ?hs ?fx ?fs ?_); (case hs => walk_at "lk"); (case fx => rfl); (case fs => rfl))
  | with_reducible refine' g_pair ?_ | with_reducible refine' g_pair0 ?_ | with_reducible refine' g_disp ?_
  | with_reducible refine' g_for ?_ | with_reducible refine' g_tupC ?_ | with_reducible refine' g_lstC ?_ | ((with_reducible refine' g_lens ?_)) | with_reducible refine' g_dg ?_ | with_reducible refine' g_lc ?_ | with_reducible refine' g_rng1 ?_ | with_reducible refine' g_ilist ?_ | with_reducible refine' g_itup ?_
  | ((with_reducible refine' ⟨_, _, rfl, ?hd, ?_⟩); (case hd => walk_at "dg"))
  | ((with_reducible refine' g_eqNil ?hs ?hz ?_); (case hs => walk_at "lk"); (case hz => walk_at "lk"))
  | ((with_reducible refine' g_neNil ?hs ?hz ?_); (case hs => walk_at "lk"); (case hz => walk_at "lk"))
  | with_reducible refine Or.inl ⟨_, rfl, ?_⟩
  | with_reducible refine Or.inr ⟨_, rfl, ?_⟩
  | ((with_reducible refine' g_eq ?hs ?_); (case hs => rfl))
  | ((with_reducible refine' g_ne ?hs ?_); (case hs => rfl))
  | ((with_reducible refine' g_I ?hc ?_); (case hc => walk_at "ar")))
/-- arithmetic's side conditions -/
local macro_rules | `(tactic| walk_at "ar") => `(tactic| (first
  | (show (0 : Int) < _; first | omega | decide) | (show (0 : Int) < _ ∧ _; constructor <;> omega) | (show ¬ (_ : Int) = _; omega) | (show (_ : Int) ≠ _ ∧ _; constructor <;> omega)
  | (show (-(2 ^ 64) < _ ∧ _) ∨ _; (first | (left; constructor <;> omega) | (right; constructor <;> omega))) | (show (0 : Int) ≤ _ ∧ _ ∧ _; refine ⟨by omega, by omega, by decide⟩)))
/-- what stands at an index -/
local macro_rules | `(tactic| walk_at "at") => `(tactic| first | rfl | assumption)
/-- what stands at an address -/
local macro_rules | `(tactic| walk_at "hp") => `(tactic| first | assumption | exact upd_same | ((refine' Eq.trans (upd_ne ?hn) ?hm); (case hm => walk_at "hp"); (case hn => walk_at "ne")))
/-- two places are two -/
local macro_rules | `(tactic| walk_at "ne") => `(tactic| first
  | assumption | exact Ne.symm (by assumption)
  | ((refine' ne_of_none ?ha ?hb); (case hb => assumption); (case ha => walk_at "hp")) | ((refine' Ne.symm (ne_of_none ?ha ?hb)); (case hb => assumption); (case ha => walk_at "hp")))
/-- what a dict tells -/
local macro_rules | `(tactic| walk_at "dg") => `(tactic| first | assumption)
/-- a length -/
local macro_rules | `(tactic| walk_at "sz") => `(tactic| first | (show _ ≤ sizeLine; decide) | (show _ < sizeLine; decide) | assumption | exact szlt (by simp) | exact szle (by simp))
/-- a list or tuple that stands -/
local macro_rules | `(tactic| walk_at "lk") => `(tactic| first | assumption | exact SqL.of (by assumption) | exact SqT.of (by assumption) | exact SqL.of upd_same | exact SqT.of upd_same | (refine' FzL.sq ?hm; (case hm => walk_at "fz")))
/-- a list that nobody writes -/
local macro_rules | `(tactic| walk_at "fz") => `(tactic| first | assumption | ((refine' FzL.uw ?hm ?hx); (case hx => walk_at "hp"); (case hm => walk_at "fz")) | ((refine' FzL.nw ?hm ?hx); (case hx => assumption); (case hm => walk_at "fz")))
/-- as far as it goes by itself -/
local macro_rules | `(tactic| walk_at "g") => `(tactic| repeat walk_at "g1")
/-- the body's reading, its places in short -/
local macro_rules | `(tactic| walk_at "go") => `(tactic| ((try dsimp only [cxOf, Cx.nox, Cx.wish]); walk_at "g"))
namespace K3
open PySem PySem.Spec PyProof.Rows L2 Bq
section
variable {P : Program} {w : World} {K : PySem.W.Frag} {mg : Str → Option Value} {base : Heap}
/-- further steps: dicts written, tuples taken apart -/
local macro_rules | `(tactic| walk_at "g1") => `(tactic| first
  | with_reducible refine' g_sdput ?_
  | ((with_reducible refine' g_gtup ?hs ?hl ?_); (case hs => walk_at "lk"); (case hl => rfl))
  | with_reducible refine' g_gcons ?_
  | with_reducible refine' g_gnil ?_
  | with_reducible refine' And.intro (Eq.refl V.non) ?_
  | with_reducible refine' g_isN ?_
  | ((with_reducible refine' g_chainR ?ha ?hb ?hc ?_); (case ha => intro R q; walk_at "g"; exact q); (case hb => intro R q; walk_at "g"; exact q); (case hc => intro R q; walk_at "g"; exact q))
  | with_reducible refine' g_notN ?_)
/-- what the law's dict tells -/
local macro_rules | `(tactic| walk_at "dg") => `(tactic| first
  | assumption
  | exact LH.gfuns (by assumption)
  | exact LH.gsaid (by assumption)
  | exact LH.gcells (by assumption)
  | exact LH.gfuel (by assumption)
  | exact LH.gend (by assumption)
  | exact LH.gcalls (by assumption)
  | exact LH.gnames (by assumption)
  | exact LH.gwaits (by assumption)
  | exact LH.gworth (by assumption)
  | exact LH.glook (by assumption))
/-- a test that fails, that holds, by itself -/
local macro_rules | `(tactic| walk_at "no") => `(tactic| ((refine tkF rfl ?_); walk_at "g"))
local macro_rules | `(tactic| walk_at "yes") => `(tactic| ((refine tkT rfl ?_); walk_at "g"))
/-- fields, methods -/
local macro_rules | `(tactic| walk_at "g1") => `(tactic| first
  | with_reducible refine' g_fl0 ?_
  | ((with_reducible refine' g_fl ?he ?hl ?_); (case he => walk_at "hp"); (case hl => rfl))
  | with_reducible refine' g_sfl0 ?_
  | with_reducible refine' g_sag0 ?_
  | with_reducible refine' g_mth0 ?_
  | ((with_reducible refine' g_mth ?he ?hl ?_); (case he => walk_at "hp"); (case hl => rfl))
  | with_reducible refine' g_mkI ?_
  | ((with_reducible refine' g_chainG ?ha ?hb ?hc ?_); (case ha => intro R q; walk_at "g"; exact q); (case hb => intro R q; walk_at "g"; exact q); (case hc => intro R q; walk_at "g"; exact q)))
/-! ### a program begun -/
def t0 (f0 : Fu) (fu : Nat) : PT := ⟨[], List.replicate 64 0, fu, [⟨handed f0 [], asD f0.body, []⟩], 0⟩
theorem t0_conv {f0 : Fu} {fu : Nat} (h : f0.ps = 0) : conv (st0 f0 fu) = t0 f0 fu := by
  simp [conv, st0, t0, cvC, cvD, handed, h, asD]
def spDoing (K : PySem.W.Frag) : Sp := fun vs H Q _ => ∃ Hb dg dx wd wx sa ca pgv, ∃ fu : Nat, ∃ fs : List Fu, ∃ f0 : Fu, vs = [.ref dg, pgv, .ref wd] ∧
  Own K Hb H ((dg, .ins (He.ga K "Doing") dx []) :: (wd, .ins (He.ga K "World") wx (wF sa ca (fu : Nat))) :: (sa, .lst []) :: (ca, .lst (iv (List.replicate 64 0))) :: []) ∧ Rep K H pgv (.tup (fs.map encF)) ∧ fs[0]? = some f0 ∧ f0.ps = 0 ∧ f0.nm ≤ 8 ∧ f0.body.length ≤ 1000 ∧
  ∀ H' b ds, Kt K H H' → b.dg = dg → b.wd = wd → b.sa = sa → b.ca = ca → PM K Hb H' fs b ds (t0 f0 fu) → Q .non H'
theorem fn_doing (C : Cn w K mg base) : Ini P w K mg base CX0 5 "Doing" ["self", "program", "world"] (spDoing K) := C.f_Doing_init fun fd F => by
  have F_Frame_init : Ini P w K mg base CX0 3 "Frame" ["self", "fun", "handed"] (spFrame K) := fn_frame C
  refine F.ok (CX := CX0) sc_Doing_init (fun vs H Q E h => ?_) (fun cdv A outer s H vs Q E hr h => ?_)
  · obtain ⟨Hb, dg, dx, wd, wx, sa, ca, pgv, fu, fs, f0, rfl, _⟩ := h
    rfl
  · obtain ⟨Hb, dg, dx, wd, wx, sa, ca, pgv, fu, fs, f0, rfl, own, rp, hf, h0, hn8, hb, q⟩ := h
    refine ⟨_, PSs.nox (pss_cons (ps_fl C.cl_Doing C.na_Doing_program (pv 0) (pv 1))
      (pss_cons (ps_fl C.cl_Doing C.na_Doing_world (pv 0) (pv 2))
      (pss_cons (ps_fl C.cl_Doing C.na_Doing_frames (pv 0) (pe_lstC (pa_cons (pe_mkI F_Frame_init C.cg_Frame (rmm hr) (by rfl) pass0 (pa_cons (pe_ix ix_tup (pv 1) pe_int (fun _ _ => rfl)) (pa_cons (pe_lstC pa_nil) pa_nil))) pa_nil)))
      (pss_one (ps_fl C.cl_Doing C.na_Doing_told (pv 0) pe_int))))), ?_⟩
    have hdg := own.at_ (l1 := [])
    walk_at "go"
    refine g_sfl (fs' := [("program", pgv)]) hdg (by simp) rfl ?_
    have O1 : Own K Hb (upd H dg (.ins (He.ga K "Doing") dx [("program", pgv)])) _ := own.wr (l1 := []) (o := .ins (He.ga K "Doing") dx [("program", pgv)]) rfl
    have k1 : Kt K H (upd H dg (.ins (He.ga K "Doing") dx [("program", pgv)])) := (Ch.wr (S := [dg]) hdg rfl (by simp)).kt
    generalize upd H dg (.ins (He.ga K "Doing") dx [("program", pgv)]) = H1 at O1 k1 ⊢
    walk_at "g"
    refine g_sfl (fs' := [("program", pgv), ("world", .ref wd)]) (O1.at_ (l1 := [])) (by simp) rfl ?_
    have O2 : Own K Hb (upd H1 dg (.ins (He.ga K "Doing") dx [("program", pgv), ("world", .ref wd)])) _ := O1.wr (l1 := []) (o := .ins (He.ga K "Doing") dx [("program", pgv), ("world", .ref wd)]) rfl
    have k2 : Kt K H (upd H1 dg (.ins (He.ga K "Doing") dx [("program", pgv), ("world", .ref wd)])) := k1.trans (Ch.wr (S := [dg]) (O1.at_ (l1 := [])) rfl (by simp)).kt
    generalize upd H1 dg (.ins (He.ga K "Doing") dx [("program", pgv), ("world", .ref wd)]) = H2 at O2 k2 ⊢
    obtain ⟨pa, pvs, rfl, hpa, rps⟩ := (rp.kt k2).tupI
    obtain ⟨fv, hfv, rfv⟩ := rps.getT (i := 0) (t := encF f0) (by rw [List.getElem?_map, hf]; rfl)
    have hat : atI pvs 0 = some fv := atI_nat (j := 0) hfv
    walk_at "g"
    refine ⟨szle (by simp), fun ha H3 n3 e3 c3 => ?_⟩
    walk_at "g"
    refine fun fa fx nfa nfx ne => ?_
    have c4 : Ch K [] H3 (upd H3 fx (.own fa)) := Ch.new nfx
    have nfa1 : (upd H3 fx (.own fa)) fa = none := by rw [upd_ne (Ne.symm ne)]; exact nfa
    have O4 := ((O2.ch c3).ch c4).new nfa1 (Ch.new (o := .ins (He.ga K "Frame") fx []) nfa1) upd_same
    have c5 := c3.trans (c4.trans (Ch.new (S := []) (o := .ins (He.ga K "Frame") fx []) nfa1))
    have hha : (upd (upd H3 fx (.own fa)) fa (.ins (He.ga K "Frame") fx [])) ha = some (.lst (iv [])) := (c4.trans (Ch.new (S := []) (o := .ins (He.ga K "Frame") fx []) nfa1)).up _ _ e3 (by simp)
    generalize upd (upd H3 fx (.own fa)) fa (.ins (He.ga K "Frame") fx []) = H5 at O4 c5 hha ⊢
    refine ⟨Hb, _, fa, fx, fv, ha, f0, [], rfl, O4, rfv.kt c5.kt, hha, h0.symm, by omega, hn8, by omega, fun H6 na ta wa tvs k6 O6 t6 => ⟨rfl, ?_⟩⟩
    have k06 := k2.trans (c5.kt.trans k6)
    unfold tNil
    refine ⟨szle (by simp), fun fl H7 n7 e7 c7 => ?_⟩
    have O7 := O6.new n7 c7 e7
    have hdg7 := O7.at_ (l1 := [_, _, _, _, _])
    walk_at "g"
    refine g_sfl (fs' := [("program", .ref pa), ("world", .ref wd), ("frames", .ref fl)]) hdg7 (by simp) rfl ?_
    have O8 : Own K Hb (upd H7 dg (.ins (He.ga K "Doing") dx [("program", .ref pa), ("world", .ref wd), ("frames", .ref fl)])) _ := O7.wr (l1 := [_, _, _, _, _]) (o := .ins (He.ga K "Doing") dx [("program", .ref pa), ("world", .ref wd), ("frames", .ref fl)]) rfl
    have k8 : Kt K H6 (upd H7 dg (.ins (He.ga K "Doing") dx [("program", .ref pa), ("world", .ref wd), ("frames", .ref fl)])) := c7.kt.trans (Ch.wr (S := [dg]) hdg7 rfl (by simp)).kt
    generalize upd H7 dg (.ins (He.ga K "Doing") dx [("program", .ref pa), ("world", .ref wd), ("frames", .ref fl)]) = H8 at O8 k8 ⊢
    have hdg8 := O8.at_ (l1 := [_, _, _, _, _])
    walk_at "g"
    refine g_sfl (fs' := dF (.ref pa) wd fl 0) hdg8 (by simp) rfl ?_
    have O9 : Own K Hb (upd H8 dg (.ins (He.ga K "Doing") dx (dF (.ref pa) wd fl 0))) _ := O8.wr (l1 := [_, _, _, _, _]) (o := .ins (He.ga K "Doing") dx (dF (.ref pa) wd fl 0)) rfl
    have k9 : Kt K H6 (upd H8 dg (.ins (He.ga K "Doing") dx (dF (.ref pa) wd fl 0))) := k8.trans (Ch.wr (S := [dg]) hdg8 rfl (by simp)).kt
    have kk := k06.trans k9
    refine q _ ⟨dg, dx, wd, wx, sa, ca, fl, .ref pa⟩ [⟨fa, fx, na, ta, wa, tvs⟩] kk rfl rfl rfl rfl ⟨O9.perm ?_, .cons (t6.kt k9) .nil, rp.kt kk⟩
    exact List.perm_append_comm (l₁ := [(fl, HO.lst [V.ref fa]), (fa, .ins (He.ga K "Frame") fx (fF na ta wa)), (na, .lst (iv (handed f0 []))), (ta, .lst tvs), (wa, .lst [])]) (l₂ := [(dg, .ins (He.ga K "Doing") dx (dF (.ref pa) wd fl 0)), (wd, .ins (He.ga K "World") wx (wF sa ca (fu : Nat))), (sa, .lst []), (ca, .lst (iv (List.replicate 64 0)))])
end
end K3
end

section
set_option maxRecDepth 100000
set_option maxHeartbeats 1000000
open Bq L2
/-- one step of a reading; what is left are side goals and places to think -/
local macro_rules | `(tactic| walk_at "g1") => `(tactic| first
  | with_reducible refine' g_seq ?_ | with_reducible refine' g_asg ?_ | with_reducible refine' g_drop ?_ | with_reducible refine' g_ret ?_ | with_reducible refine' g_ifS ?_ | with_reducible refine' g_asgG ?_
  | ((with_reducible refine' g_var ?hv ?_); (case hv => rfl))
  | with_reducible refine' g_c ?_ | with_reducible refine' g_op ?_ | with_reducible refine' g_un ?_ | with_reducible refine' g_I0 ?_ | with_reducible refine' g_U ?_
  | with_reducible refine' g_test ?_ | with_reducible refine' g_tB ?_ | with_reducible refine Exists.intro _ (And.intro rfl ?_) 
  | ((with_reducible refine' g_andP ?ha ?hb ?_); (case ha => intro R q; walk_at "g"; exact q); (case hb => intro R q; walk_at "g"; exact q))
  | ((with_reducible refine' g_orP ?ha ?hb ?_); (case ha => intro R q; walk_at "g"; exact q); (case hb => intro R q; walk_at "g"; exact q))
  | with_reducible refine' g_and ?_ | with_reducible refine' g_or ?_ | with_reducible refine' g_not ?_
  | with_reducible refine' g_andV ?_ | with_reducible refine' g_orV ?_ | with_reducible refine' g_notV ?_ | with_reducible refine' g_if ?_ | with_reducible refine' g_nil ?_ | with_reducible refine' g_cons ?_
  | with_reducible refine' g_tup ?_ | with_reducible refine' g_lst ?_ | with_reducible refine' g_CB ?_ | with_reducible refine' g_Fn ?_ | with_reducible refine' g_next ?_ | with_reducible refine' g_retN ?_
  | with_reducible refine' g_name ?_ | with_reducible refine' g_sub ?_
  | ((with_reducible refine' g_ixL ?hs ?he ?_); (case hs => walk_at "lk"); (case he => walk_at "at"))
  | ((with_reducible refine' g_ixT ?hs ?he ?_); (case hs => walk_at "lk"); (case he => walk_at "at"))
  | ((with_reducible refine' g_setL ?hs ?he ?_); (case hs => walk_at "hp"); (case he => rfl))
  | ((with_reducible refine' g_app ?hs ?hz ?_); (case hs => walk_at "hp"); (case hz => walk_at "sz"))
  | ((with_reducible refine' ⟨_, _, rfl, Or.inl ?hs, ?_⟩); (case hs => walk_at "lk"))
  | ((with_reducible refine' ⟨_, _, rfl, Or.inr ?hs, ?_⟩); (case hs => walk_at "lk"))
  | with_reducible refine' g_BM ?_ | with_reducible refine' g_BM0 ?_ | ((with_reducible refine' g_tyL ?hs ?_); (case hs => walk_at "lk"))
  | with_reducible refine' g_sl ?_ | with_reducible refine' g_noPart ?_ | with_reducible refine' g_part ?_
  | ((with_reducible refine' g_inT ?hs ?fx ?fs ?_); (case hs => walk_at "lk"); (case fx => rfl); (case fs => rfl))
  | with_reducible refine' g_pair ?_ | with_reducible refine' g_pair0 ?_ | with_reducible refine' g_disp ?_
  | with_reducible refine' g_for ?_ | with_reducible refine' g_tupC ?_ | with_reducible refine' g_lstC ?_ | ((with_reducible refine' g_lens ?_)) | with_reducible refine' g_dg ?_ | with_reducible refine' g_lc ?_ | with_reducible refine' g_rng1 ?_ | with_reducible refine' g_ilist ?_ | with_reducible refine' g_itup ?_
  | ((with_reducible refine' ⟨_, _, rfl, ?hd, ?_⟩); (case hd => walk_at "dg"))
  | ((with_reducible refine' g_eqNil ?hs ?hz ?_); (case hs => walk_at "lk"); (case hz => walk_at "lk"))
  | ((with_reducible refine' g_neNil ?hs ?hz ?_); (case hs => walk_at "lk"); (case hz => walk_at "lk"))
  | with_reducible refine Or.inl ⟨_, rfl, ?_⟩
  | with_reducible refine Or.inr ⟨_, rfl, ?_⟩
  | ((with_reducible refine' g_eq ?hs ?_); (case hs => rfl))
  | ((with_reducible refine' g_ne ?hs ?_); (case hs => rfl))
  | ((with_reducible refine' g_I ?hc ?_); (case hc => walk_at "ar")))
/-- arithmetic's side conditions -/
local macro_rules | `(tactic| walk_at "ar") => `(tactic| (first
  | (show (0 : Int) < _; first | omega | decide) | (show (0 : Int) < _ ∧ _; constructor <;> omega) | (show ¬ (_ : Int) = _; omega) | (show (_ : Int) ≠ _ ∧ _; constructor <;> omega)
  | (show (-(2 ^ 64) < _ ∧ _) ∨ _; (first | (left; constructor <;> omega) | (right; constructor <;> omega))) | (show (0 : Int) ≤ _ ∧ _ ∧ _; refine ⟨by omega, by omega, by decide⟩)))
/-- what stands at an index -/
local macro_rules | `(tactic| walk_at "at") => `(tactic| first | rfl | assumption)
/-- what stands at an address -/
local macro_rules | `(tactic| walk_at "hp") => `(tactic| first | assumption | exact upd_same | ((refine' Eq.trans (upd_ne ?hn) ?hm); (case hm => walk_at "hp"); (case hn => walk_at "ne")))
/-- two places are two -/
local macro_rules | `(tactic| walk_at "ne") => `(tactic| first
  | assumption | exact Ne.symm (by assumption)
  | ((refine' ne_of_none ?ha ?hb); (case hb => assumption); (case ha => walk_at "hp")) | ((refine' Ne.symm (ne_of_none ?ha ?hb)); (case hb => assumption); (case ha => walk_at "hp")))
/-- what a dict tells -/
local macro_rules | `(tactic| walk_at "dg") => `(tactic| first | assumption)
/-- a length -/
local macro_rules | `(tactic| walk_at "sz") => `(tactic| first | (show _ ≤ sizeLine; decide) | (show _ < sizeLine; decide) | assumption | exact szlt (by simp) | exact szle (by simp))
/-- a list or tuple that stands -/
local macro_rules | `(tactic| walk_at "lk") => `(tactic| first | assumption | exact SqL.of (by assumption) | exact SqT.of (by assumption) | exact SqL.of upd_same | exact SqT.of upd_same | (refine' FzL.sq ?hm; (case hm => walk_at "fz")))
/-- a list that nobody writes -/
local macro_rules | `(tactic| walk_at "fz") => `(tactic| first | assumption | ((refine' FzL.uw ?hm ?hx); (case hx => walk_at "hp"); (case hm => walk_at "fz")) | ((refine' FzL.nw ?hm ?hx); (case hx => assumption); (case hm => walk_at "fz")))
/-- as far as it goes by itself -/
local macro_rules | `(tactic| walk_at "g") => `(tactic| repeat walk_at "g1")
/-- the body's reading, its places in short -/
local macro_rules | `(tactic| walk_at "go") => `(tactic| ((try dsimp only [cxOf, Cx.nox, Cx.wish]); walk_at "g"))
namespace K3
open PySem PySem.Spec PyProof.Rows L2 Bq
section
variable {P : Program} {w : World} {K : PySem.W.Frag} {mg : Str → Option Value} {base : Heap}
/-- further steps: dicts written, tuples taken apart -/
local macro_rules | `(tactic| walk_at "g1") => `(tactic| first
  | with_reducible refine' g_sdput ?_
  | ((with_reducible refine' g_gtup ?hs ?hl ?_); (case hs => walk_at "lk"); (case hl => rfl))
  | with_reducible refine' g_gcons ?_
  | with_reducible refine' g_gnil ?_
  | with_reducible refine' And.intro (Eq.refl V.non) ?_
  | with_reducible refine' g_isN ?_
  | ((with_reducible refine' g_chainR ?ha ?hb ?hc ?_); (case ha => intro R q; walk_at "g"; exact q); (case hb => intro R q; walk_at "g"; exact q); (case hc => intro R q; walk_at "g"; exact q))
  | with_reducible refine' g_notN ?_)
/-- what the law's dict tells -/
local macro_rules | `(tactic| walk_at "dg") => `(tactic| first
  | assumption
  | exact LH.gfuns (by assumption)
  | exact LH.gsaid (by assumption)
  | exact LH.gcells (by assumption)
  | exact LH.gfuel (by assumption)
  | exact LH.gend (by assumption)
  | exact LH.gcalls (by assumption)
  | exact LH.gnames (by assumption)
  | exact LH.gwaits (by assumption)
  | exact LH.gworth (by assumption)
  | exact LH.glook (by assumption))
/-- a test that fails, that holds, by itself -/
local macro_rules | `(tactic| walk_at "no") => `(tactic| ((refine tkF rfl ?_); walk_at "g"))
local macro_rules | `(tactic| walk_at "yes") => `(tactic| ((refine tkT rfl ?_); walk_at "g"))
/-- fields, methods -/
local macro_rules | `(tactic| walk_at "g1") => `(tactic| first
  | with_reducible refine' g_fl0 ?_
  | ((with_reducible refine' g_fl ?he ?hl ?_); (case he => walk_at "hp"); (case hl => rfl))
  | with_reducible refine' g_sfl0 ?_
  | with_reducible refine' g_sag0 ?_
  | with_reducible refine' g_mth0 ?_
  | ((with_reducible refine' g_mth ?he ?hl ?_); (case he => walk_at "hp"); (case hl => rfl))
  | with_reducible refine' g_mkI ?_
  | ((with_reducible refine' g_chainG ?ha ?hb ?hc ?_); (case ha => intro R q; walk_at "g"; exact q); (case hb => intro R q; walk_at "g"; exact q); (case hc => intro R q; walk_at "g"; exact q)))
/-! ### run -/
theorem cg_Fault (C : Cn w K mg base) : mg "Fault" = some (.ref (He.ga K "Fault")) := He.glo_ok C.kin C.ns (C.says.d.fact 58)
theorem cg_Long (C : Cn w K mg base) : mg "Long" = some (.ref (He.ga K "Long")) := He.glo_ok C.kin C.ns (C.says.d.fact 59)
/-- what the written part says of the two errors -/
structure XTx (K : PySem.W.Frag) : Prop where
  xf : XfC K (He.ga K "Fault")
  no : PySem.W.findIn K (.ref (He.ga K "Fault")) "word" = some none
  ff : PySem.W.exmOne K (.ref (He.ga K "Fault")) (.ref (He.ga K "Fault")) = some true
  lf : PySem.W.exmOne K (.ref (He.ga K "Long")) (.ref (He.ga K "Fault")) = some false
  ll : PySem.W.exmOne K (.ref (He.ga K "Long")) (.ref (He.ga K "Long")) = some true
def spPRun (K : PySem.W.Frag) : Sp := fun vs H Q _ => ∃ pgv, ∃ (fu : Nat) (fs : List Fu) (f0 : Fu), ∃ n fi, vs = [pgv, .int (fu : Nat)] ∧ Rep K H pgv (.tup (fs.map encF)) ∧ WfPr fs ∧ fs[0]? = some f0 ∧ fu ≤ 3000 ∧ PRun fs n (t0 f0 fu) fi ∧
  ∀ H' p sa ea ca, Ch K [] H H' → H sa = none → H ca = none → sa ≠ ca → H' p = some (.tup [.ref sa, .ref ea, .ref ca]) → H' sa = some (.lst (iv fi.said)) → SqT K H' ea (enV fi.en) → H' ca = some (.lst (iv fi.cells)) → Q (.ref p) H'
theorem fn_prun (C : Cn w K mg base) (MF : MkF P w K mg base) (ML : MkL P w K mg base) (XT : XTx K) : Fn P w K mg base CX0 10 "run" ["program", "fuel"] (spPRun K) := C.f_run fun fd F => by
  have F_check_program : Fn P w K mg base CX0 6 "check_program" ["program"] (spCheck K) := fn_check C
  have F_check_fuel : Fn P w K mg base CX0 2 "check_fuel" ["fuel"] (spCheckFuel K) := fn_check_fuel C
  have F_World_init : Ini P w K mg base CX0 2 "World" ["self", "fuel"] (spWorld K) := fn_world C
  have F_Doing_init : Ini P w K mg base CX0 5 "Doing" ["self", "program", "world"] (spDoing K) := fn_doing C
  have F_told : Mth P w K mg base (L2.CX P w) 8 (He.ga K "Doing") "told_at_last" ["self"] (spTold K) := fn_told C MF ML
  refine F.ok (CX := CX0) sc_run (fun vs H Q E h => ?_) (fun cdv A outer s H vs Q E hr h => ?_)
  · obtain ⟨pgv, fu, fs, f0, n, fi, rfl, _⟩ := h
    rfl
  · obtain ⟨pgv, fu, fs, f0, n, fi, rfl, rp, W, hf, hfu, run, q⟩ := h
    refine ⟨_, PSs.nox (pss_cons (ps_expr (pe_fn F_check_program (rmm hr) (by rfl) pass0 (pa_cons (pv 0) pa_nil)))
      (pss_cons (ps_expr (pe_fn F_check_fuel (rmm hr) (by rfl) pass0 (pa_cons (pv 1) pa_nil)))
      (pss_cons (ps_set (i := 2) sc_run.nd rfl (Or.inl rfl) (pe_mkI F_World_init C.cg_World (rmm hr) (by rfl) pass0 (pa_cons (pv 1) pa_nil)))
      (pss_cons (ps_try_asMany (i := 4) (tb := fun W => tAsg (tTupC K (tCons (tC (.str "worth")) (tCons (tMthS (He.ga K "Doing") "told_at_last" (spTold K) (WE W) (tMkI (He.ga K "Doing") (spDoing K) E0 (tCons (tVar 0) (tCons (tVar 2) tNil)))) tNil))) (gName 3)) (ts := fun a cls d => tAsg (tTupC K (tCons (tC (.str "fault")) (tCons (tXf a cls d (He.ga K "Fault") "word" (tVar 4)) tNil))) (gName 3)) (l := [(.ref (He.ga K "Long"), fun _ _ _ => tAsg (tTupC K (tCons (tC (.str "long")) tNil)) (gName 3))]) (Wout := fun _ _ _ _ => False) rfl rfl sc_run.nd rfl rfl ⟨rfl, by decide, Or.inl (cg_Fault C)⟩ takes0
        (fun W pn xe tk _ => pss_one (ps_set (i := 3) sc_run.nd rfl (Or.inl rfl) (by exact (pe_tupC (pa_cons pe_str (pa_cons (pe_mth0S (E := WE W) F_told C.cl_Doing (rmm hr) (fun σ => passAt tk σ) (pe_mkI F_Doing_init C.cg_Doing (rmm hr) (by rfl) pass0 (pa_cons (pv 0) (pa_cons (pv 2) pa_nil)))) pa_nil))))))
        (fun a oe cls d pn hz hf => pss_one (ps_set (i := 3) sc_run.nd rfl (Or.inl rfl) (by exact (pe_tupC (pa_cons pe_str (pa_cons (pe_xf XT.xf XT.no hz hf (pv 4)) pa_nil))))))
        (HdsOk.cons ⟨rfl, by decide, Or.inl (cg_Long C)⟩ (fun a oe cls d pn hz hf => pss_one (ps_set (i := 3) sc_run.nd rfl (Or.inl rfl) (by exact (pe_tupC (pa_cons pe_str pa_nil))))) HdsOk.nil))
      (pss_one (ps_ret (pe_tupC (pa_cons (pe_fl C.cl_World C.na_World_said (pv 2)) (pa_cons (pv 3) (pa_cons (pe_fl C.cl_World C.na_World_cells (pv 2)) pa_nil)))))))))), ?_⟩
    have fin : ∀ (H' : Hp) (b : MB) (ds : List FD) (T : PT) (ea : Addr) (x : Option V), PM K H H' fs b ds T → T.said = fi.said → T.cells = fi.cells → SqT K H' ea (enV fi.en) →
        tRet (tTupC K (tCons (tFl (He.ga K "World") (tVar 2) "said") (tCons (tVar 3) (tCons (tFl (He.ga K "World") (tVar 2) "cells") tNil)))) { nx := fun _ H' => Q .non H', rt := Q } [some pgv, some (.int (fu : Nat)), some (.ref b.wd), some (.ref ea), x] H' := by
      intro H' b ds T ea x pm es ec he
      have hwd := pm.hwd
      walk_at "g"
      refine ⟨szle (by simp), fun p H2 n2 e2 c2 => ?_⟩
      have pm2 := pm.ch c2
      have f1 := pm.own.f (b.sa, _) (by unfold mS; simp; exact .inr (.inr (.inl rfl)))
      have f2 := pm.own.f (b.ca, _) (by unfold mS; simp; exact .inr (.inr (.inr (.inl rfl))))
      have nd := pm.own.nd
      have nsc : b.sa ≠ b.ca := by
        simp only [mS, List.map_cons, List.nodup_cons, List.mem_cons, not_or] at nd
        exact nd.2.2.1.1
      exact q H2 p b.sa ea b.ca pm2.own.c f1 f2 nsc e2 (by rw [← es]; exact pm2.hsa) (c2.sqT he) (by rw [← ec]; exact pm2.hca)
    walk_at "go"
    refine ⟨pgv, fs, rfl, rp, W, fun H1 c1 => ?_⟩
    walk_at "g"
    refine ⟨fu, rfl, hfu, ?_⟩
    walk_at "g"
    refine fun wd wx nwd nwx ne => ?_
    have O1 : Own K H H1 [] := ⟨c1, (fun p hp => by cases hp), (fun p hp => by cases hp), List.nodup_nil⟩
    have nwd1 : (upd H1 wx (.own wd)) wd = none := by rw [upd_ne (Ne.symm ne)]; exact nwd
    have O2 := (O1.ch (Ch.new (o := .own wd) nwx)).new nwd1 (Ch.new (o := .ins (He.ga K "World") wx []) nwd1) upd_same
    generalize upd (upd H1 wx (.own wd)) wd (.ins (He.ga K "World") wx []) = H2 at O2 ⊢
    refine ⟨H, [], wd, wx, fu, rfl, O2, fun H3 sa ca k3 O3 => ⟨rfl, ?_⟩⟩
    walk_at "g"
    refine g_mthS0 ?_
    walk_at "g"
    refine fun dg dx ndg ndx ned => ?_
    have ndg1 : (upd H3 dx (.own dg)) dg = none := by rw [upd_ne (Ne.symm ned)]; exact ndg
    have O4 := (O3.ch (Ch.new (o := .own dg) ndx)).new ndg1 (Ch.new (o := .ins (He.ga K "Doing") dx []) ndg1) upd_same
    generalize upd (upd H3 dx (.own dg)) dg (.ins (He.ga K "Doing") dx []) = H4 at O4 ⊢
    have hm := List.mem_of_getElem? hf
    refine ⟨H, dg, dx, wd, wx, sa, ca, pgv, fu, fs, f0, rfl, O4, rp.kt O4.c.kt, hf, W.f0 f0 hf, (W.all _ hm).n8, ?_, fun H5 b ds k5 eg ew es ec pm => ⟨rfl, ?_⟩⟩
    · have := szB_len f0.body
      have := (W.all _ hm).sz
      omega
    subst eg ew es ec
    have hdg := pm.hdg
    refine ⟨b.dg, b.dx, _, rfl, hdg, rfl, ?_⟩
    refine ⟨H, fs, _, b, ds, _, n, fi, rfl, pm, W.ps, run, fun H' v T' ev pm' e1 e2 => ?_, ?_⟩
    · unfold tNil
      refine ⟨szle (by simp), fun p H6 n6 e6 c6 => ?_⟩
      exact fin H6 b [] T' p _ (pm'.ch c6) e1 e2 (by rw [ev]; exact SqT.of e6)
    · obtain ⟨fsd, fce, fen⟩ := fi
      cases fen with
      | worth v => trivial
      | fault z =>
        intro H' d ds' T' pm' e1 e2 ed
        refine ⟨true, XT.ff, fun _ a na => ?_, fun z => by cases z⟩
        show tAsg _ _ _ _ _
        walk_at "g"
        unfold tXf
        walk_at "g"
        refine ⟨rfl, rfl, d, _, .str z, rfl, ed, rfl, ?_⟩
        walk_at "g"
        refine ⟨szle (by simp), fun p H6 n6 e6 c6 => ?_⟩
        exact fin H6 b ds' T' p none (pm'.ch c6) e1 e2 (SqT.of e6)
      | long =>
        intro H' ds' T' pm' e1 e2
        refine ⟨false, XT.lf, (fun z => by cases z), fun _ => ⟨true, XT.ll, fun _ a na => ?_, fun z => by cases z⟩⟩
        show tAsg _ _ _ _ _
        walk_at "g"
        refine ⟨szle (by simp), fun p H6 n6 e6 c6 => ?_⟩
        exact fin H6 b ds' T' p none (pm'.ch c6) e1 e2 (SqT.of e6)
end
end K3
end

section
set_option maxRecDepth 100000
set_option maxHeartbeats 1000000
open Bq L2
/-- one step of a reading; what is left are side goals and places to think -/
local macro_rules | `(tactic| walk_at "g1") => `(tactic| first
  | with_reducible refine' g_seq ?_ | with_reducible refine' g_asg ?_ | with_reducible refine' g_drop ?_ | with_reducible refine' g_ret ?_ | with_reducible refine' g_ifS ?_ | with_reducible refine' g_asgG ?_
  | ((with_reducible refine' g_var ?hv ?_); (case hv => rfl))
  | with_reducible refine' g_c ?_ | with_reducible refine' g_op ?_ | with_reducible refine' g_un ?_ | with_reducible refine' g_I0 ?_ | with_reducible refine' g_U ?_
  | with_reducible refine' g_test ?_ | with_reducible refine' g_tB ?_ | with_reducible refine Exists.intro _ (And.intro rfl ?_) 
  | ((with_reducible refine' g_andP ?ha ?hb ?_); (case ha => intro R q; walk_at "g"; exact q); (case hb => intro R q; walk_at "g"; exact q))
  | ((with_reducible refine' g_orP ?ha ?hb ?_); (case ha => intro R q; walk_at "g"; exact q); (case hb => intro R q; walk_at "g"; exact q))
  | with_reducible refine' g_and ?_ | with_reducible refine' g_or ?_ | with_reducible refine' g_not ?_
  | with_reducible refine' g_andV ?_ | with_reducible refine' g_orV ?_ | with_reducible refine' g_notV ?_ | with_reducible refine' g_if ?_ | with_reducible refine' g_nil ?_ | with_reducible refine' g_cons ?_
  | with_reducible refine' g_tup ?_ | with_reducible refine' g_lst ?_ | with_reducible refine' g_CB ?_ | with_reducible refine' g_Fn ?_ | with_reducible refine' g_next ?_ | with_reducible refine' g_retN ?_
  | with_reducible refine' g_name ?_ | with_reducible refine' g_sub ?_
  | ((with_reducible refine' g_ixL ?hs ?he ?_); (case hs => walk_at "lk"); (case he => walk_at "at"))
  | ((with_reducible refine' g_ixT ?hs ?he ?_); (case hs => walk_at "lk"); (case he => walk_at "at"))
  | ((with_reducible refine' g_setL ?hs ?he ?_); (case hs => walk_at "hp"); (case he => rfl))
  | ((with_reducible refine' g_app ?hs ?hz ?_); (case hs => walk_at "hp"); (case hz => walk_at "sz"))
  | ((with_reducible refine' ⟨_, _, rfl, Or.inl ?hs, ?_⟩); (case hs => walk_at "lk"))
  | ((with_reducible refine' ⟨_, _, rfl, Or.inr ?hs, ?_⟩); (case hs => walk_at "lk"))
  | with_reducible refine' g_BM ?_ | with_reducible refine' g_BM0 ?_ | ((with_reducible refine' g_tyL ?hs ?_); (case hs => walk_at "lk"))
  | with_reducible refine' g_sl ?_ | with_reducible refine' g_noPart ?_ | with_reducible refine' g_part ?_
  | ((with_reducible refine' g_inT ?hs ?fx ?fs ?_); (case hs => walk_at "lk"); (case fx => rfl); (case fs => rfl))
  | with_reducible refine' g_pair ?_ | with_reducible refine' g_pair0 ?_ | with_reducible refine' g_disp ?_
  | with_reducible refine' g_for ?_ | with_reducible refine' g_tupC ?_ | with_reducible refine' g_lstC ?_ | ((with_reducible refine' g_lens ?_)) | with_reducible refine' g_dg ?_ | with_reducible refine' g_lc ?_ | with_reducible refine' g_rng1 ?_ | with_reducible refine' g_ilist ?_ | with_reducible refine' g_itup ?_
  | ((with_reducible refine' ⟨_, _, rfl, ?hd, ?_⟩); (case hd => walk_at "dg"))
  | ((with_reducible refine' g_eqNil ?hs ?hz ?_); (case hs => walk_at "lk"); (case hz => walk_at "lk"))
  | ((with_reducible refine' g_neNil ?hs ?hz ?_); (case hs => walk_at "lk"); (case hz => walk_at "lk"))
  | with_reducible refine Or.inl ⟨_, rfl, ?_⟩
  | with_reducible refine Or.inr ⟨_, rfl, ?_⟩
  | ((with_reducible refine' g_eq ?hs ?_); (case hs => rfl))
  | ((with_reducible refine' g_ne ?hs ?_); (case hs => rfl))
  | ((with_reducible refine' g_I ?hc ?_); (case hc => walk_at "ar")))
/-- arithmetic's side conditions -/
local macro_rules | `(tactic| walk_at "ar") => `(tactic| (first
  | (show (0 : Int) < _; first | omega | decide) | (show (0 : Int) < _ ∧ _; constructor <;> omega) | (show ¬ (_ : Int) = _; omega) | (show (_ : Int) ≠ _ ∧ _; constructor <;> omega)
  | (show (-(2 ^ 64) < _ ∧ _) ∨ _; (first | (left; constructor <;> omega) | (right; constructor <;> omega))) | (show (0 : Int) ≤ _ ∧ _ ∧ _; refine ⟨by omega, by omega, by decide⟩)))
/-- what stands at an index -/
local macro_rules | `(tactic| walk_at "at") => `(tactic| first | rfl | assumption)
/-- what stands at an address -/
local macro_rules | `(tactic| walk_at "hp") => `(tactic| first | assumption | exact upd_same | ((refine' Eq.trans (upd_ne ?hn) ?hm); (case hm => walk_at "hp"); (case hn => walk_at "ne")))
/-- two places are two -/
local macro_rules | `(tactic| walk_at "ne") => `(tactic| first
  | assumption | exact Ne.symm (by assumption)
  | ((refine' ne_of_none ?ha ?hb); (case hb => assumption); (case ha => walk_at "hp")) | ((refine' Ne.symm (ne_of_none ?ha ?hb)); (case hb => assumption); (case ha => walk_at "hp")))
/-- what a dict tells -/
local macro_rules | `(tactic| walk_at "dg") => `(tactic| first | assumption)
/-- a length -/
local macro_rules | `(tactic| walk_at "sz") => `(tactic| first | (show _ ≤ sizeLine; decide) | (show _ < sizeLine; decide) | assumption | exact szlt (by simp) | exact szle (by simp))
/-- a list or tuple that stands -/
local macro_rules | `(tactic| walk_at "lk") => `(tactic| first | assumption | exact SqL.of (by assumption) | exact SqT.of (by assumption) | exact SqL.of upd_same | exact SqT.of upd_same | (refine' FzL.sq ?hm; (case hm => walk_at "fz")))
/-- a list that nobody writes -/
local macro_rules | `(tactic| walk_at "fz") => `(tactic| first | assumption | ((refine' FzL.uw ?hm ?hx); (case hx => walk_at "hp"); (case hm => walk_at "fz")) | ((refine' FzL.nw ?hm ?hx); (case hx => assumption); (case hm => walk_at "fz")))
/-- as far as it goes by itself -/
local macro_rules | `(tactic| walk_at "g") => `(tactic| repeat walk_at "g1")
/-- the body's reading, its places in short -/
local macro_rules | `(tactic| walk_at "go") => `(tactic| ((try dsimp only [cxOf, Cx.nox, Cx.wish]); walk_at "g"))
namespace K3
open PySem PySem.Spec PyProof.Rows L2 Bq
section
variable {P : Program} {w : World} {K : PySem.W.Frag} {mg : Str → Option Value} {base : Heap}
/-- further steps: dicts written, tuples taken apart -/
local macro_rules | `(tactic| walk_at "g1") => `(tactic| first
  | with_reducible refine' g_sdput ?_
  | ((with_reducible refine' g_gtup ?hs ?hl ?_); (case hs => walk_at "lk"); (case hl => rfl))
  | with_reducible refine' g_gcons ?_
  | with_reducible refine' g_gnil ?_
  | with_reducible refine' And.intro (Eq.refl V.non) ?_
  | with_reducible refine' g_isN ?_
  | ((with_reducible refine' g_chainR ?ha ?hb ?hc ?_); (case ha => intro R q; walk_at "g"; exact q); (case hb => intro R q; walk_at "g"; exact q); (case hc => intro R q; walk_at "g"; exact q))
  | with_reducible refine' g_notN ?_)
/-- what the law's dict tells -/
local macro_rules | `(tactic| walk_at "dg") => `(tactic| first
  | assumption
  | exact LH.gfuns (by assumption)
  | exact LH.gsaid (by assumption)
  | exact LH.gcells (by assumption)
  | exact LH.gfuel (by assumption)
  | exact LH.gend (by assumption)
  | exact LH.gcalls (by assumption)
  | exact LH.gnames (by assumption)
  | exact LH.gwaits (by assumption)
  | exact LH.gworth (by assumption)
  | exact LH.glook (by assumption))
/-- a test that fails, that holds, by itself -/
local macro_rules | `(tactic| walk_at "no") => `(tactic| ((refine tkF rfl ?_); walk_at "g"))
local macro_rules | `(tactic| walk_at "yes") => `(tactic| ((refine tkT rfl ?_); walk_at "g"))
/-- fields, methods -/
local macro_rules | `(tactic| walk_at "g1") => `(tactic| first
  | with_reducible refine' g_fl0 ?_
  | ((with_reducible refine' g_fl ?he ?hl ?_); (case he => walk_at "hp"); (case hl => rfl))
  | with_reducible refine' g_sfl0 ?_
  | with_reducible refine' g_sag0 ?_
  | with_reducible refine' g_mth0 ?_
  | ((with_reducible refine' g_mth ?he ?hl ?_); (case he => walk_at "hp"); (case hl => rfl))
  | with_reducible refine' g_mkI ?_
  | ((with_reducible refine' g_chainG ?ha ?hb ?hc ?_); (case ha => intro R q; walk_at "g"; exact q); (case hb => intro R q; walk_at "g"; exact q); (case hc => intro R q; walk_at "g"; exact q)))
/-! ### the law -/
theorem ends_said {fs : List Fu} {st : Bq.St} {fi : Fi} (h : Bq.Ends fs st fi) : fi.said = st.said ∧ fi.cells = st.cells := by
  cases h <;> exact ⟨rfl, rfl⟩
theorem run_said {ps : List Nat} {fs : List Fu} (W : WfPs ps fs) {st : Bq.St} {fi : Fi} (r : Run fs st fi) : WfSt ps st → st.said.length + left st ≤ 4000000 → fi.said.length ≤ 4000000 ∧ fi.cells.length ≤ 64 := by
  induction r with
  | fin h =>
    intro w hs
    obtain ⟨e1, e2⟩ := ends_said h
    rw [e1, e2]
    exact ⟨by omega, Nat.le_of_eq w.ce⟩
  | step h r ih =>
    intro w hs
    have l := h.lt W w
    exact ih (h.wf W w) (Nat.le_trans l.2 hs)
theorem lk_iv {H : Hp} {n : Nat} (l : List Int) : ∀ (i : Nat) x y, (iv l)[i]? = some x → (iv l)[i]? = some y → Lk K H n x y := by
  intro i x y hx hy
  rw [hx] at hy
  cases hy
  unfold iv at hx
  rw [List.getElem?_map] at hx
  cases e : l[i]? with
  | none => rw [e] at hx; cases hx
  | some v =>
    rw [e] at hx
    cases hx
    exact .int v
theorem lk_en {H : Hp} {n : Nat} (e : En) : ∀ (i : Nat) x y, (enV e)[i]? = some x → (enV e)[i]? = some y → Lk K H n x y := by
  intro i x y hx hy
  rw [hx] at hy
  cases hy
  cases e with
  | worth v =>
    match i with
    | 0 => cases hx; exact .str _
    | 1 => cases hx; exact .int _
    | n + 2 => simp [enV] at hx
  | fault z =>
    match i with
    | 0 => cases hx; exact .str _
    | 1 => cases hx; exact .str _
    | n + 2 => simp [enV] at hx
  | long =>
    match i with
    | 0 => cases hx; exact .str _
    | n + 1 => simp [enV] at hx
theorem en_len (e : En) : (enV e).length ≤ 4100000 := by cases e <;> simp [enV]
def spLaw (K : PySem.W.Frag) : Sp := fun vs H Q _ => ∃ (sc : Addr) (ns : List Int), vs = [.ref sc] ∧ FzL K H sc (ns.map V.int) ∧ ns.length ≤ 63 ∧ ∀ H', Q (.bl true) H'
theorem ok_law (C : Cn w K mg base) (MF : MkF P w K mg base) (ML : MkL P w K mg base) (XT : XTx K) {fl : Addr} {fd : FuncData} (F : FnP K "law" "law" s_law fl fd) : FnOk P w K mg base CX0 99 fl fd ["_law_script"] (spLaw K) := by
  have F_law_dice : Fn P w K mg base CX0 1 "_law_dice" ["_law_script"] (spDice K) := fn_dice C
  have F_law_program : Fn P w K mg base CX0 98 "_law_program" ["_law_d"] (spProgram K) := fn_program C
  have F_law_fuel : Fn P w K mg base CX0 2 "_law_fuel" ["_law_d"] (spFuel K) := fn_fuel C
  have F_law_run : Fn P w K mg base CX0 6 "_law_run" ["_law_program_here", "_law_fuel_here"] (spRun K) := fn_run C
  have F_run : Fn P w K mg base CX0 10 "run" ["program", "fuel"] (spPRun K) := fn_prun C MF ML XT
  have F_law_like : Fn P w K mg base CX0 4 "_law_like" ["_law_found", "_law_due"] (spLike K 2) := fn_like C 2
  refine F.ok (CX := CX0) sc_law (fun vs H Q E h => ?_) (fun cdv A outer s H vs Q E hr h => ?_)
  · obtain ⟨sc, ns, rfl, _⟩ := h
    rfl
  · obtain ⟨sc, ns, rfl, hs, hl, q⟩ := h
    refine ⟨_, PSs.nox (pss_cons (ps_set (i := 1) sc_law.nd rfl (Or.inl rfl) (pe_fn F_law_dice (rmm hr) (by rfl) pass0 (pa_cons (pv 0) pa_nil)))
      (pss_cons (ps_for PassesOwn.never rfl (pi_range1 (by rfl) (C.m_range) (pa_cons pe_int pa_nil)) (pg_name (i := 2) sc_law.nd rfl (Or.inl rfl)) (pss_cons (ps_par (i := 3) (j := 4) (by rfl) sc_law.nd rfl rfl (by decide) rfl rfl (pa_cons (pe_fn F_law_program (rmm hr) (by rfl) pass0 (pa_cons (pv 1) pa_nil)) (pa_cons (pe_fn F_law_fuel (rmm hr) (by rfl) pass0 (pa_cons (pv 1) pa_nil)) pa_nil)) (by rfl))
      (pss_cons (ps_set (i := 5) sc_law.nd rfl (Or.inl rfl) (pe_fn F_law_run (rmm hr) (by rfl) pass0 (pa_cons (pv 3) (pa_cons (pv 4) pa_nil))))
      (pss_one (ps_for PassesOwn.never rfl (pi_range1 (by rfl) (C.m_range) (pa_cons pe_int pa_nil)) (pg_name (i := 6) sc_law.nd rfl (Or.inl rfl)) (pss_cons (ps_set (i := 7) sc_law.nd rfl (Or.inl rfl) (pe_fn F_run (rmm hr) (by rfl) pass0 (pa_cons (pv 3) (pa_cons (pv 4) pa_nil))))
      (pss_cons (ps_if (pt_not (pt_val (pe_fn F_law_like (rmm hr) (by rfl) pass0 (pa_cons (pv 7) (pa_cons (pv 5) pa_nil))))) (pss_one (ps_ret pe_bl)) pss_nil)
      (pss_cons (ps_expr (pe_bm PySem.F.plainAttrs_list PySem.F.slot_list_append PySem.F.type_list_append mt_append (pe_ix ix_tup (pv 7) pe_int (fun _ _ => rfl)) (pa_cons pe_int pa_nil)))
      (pss_one (ps_expr (pe_bm0 PySem.F.plainAttrs_list PySem.F.slot_list_clear PySem.F.type_list_clear mt_clear (pe_ix ix_tup (pv 7) pe_int (fun _ _ => rfl)))))))))))))
      (pss_one (ps_ret pe_bl)))), ?_⟩
    walk_at "go"
    refine ⟨sc, ns, rfl, hs, hl, fun H1 d c1 nd D1 => ?_⟩
    walk_at "g"
    refine ⟨by decide, by decide, ?_⟩
    refine for_rng (n := 3) (fun i σ' H' => ∃ a b x y z u, σ' = [some (.ref sc), some (.ref d), a, b, x, y, z, u] ∧ Dice K H' d) ⟨_, _, _, _, _, _, rfl, D1⟩ ?_ ?_
    · rintro i _ H2 hi ⟨a, b, x, y, z, u, rfl, D2⟩
      walk_at "g"
      unfold tPar
      walk_at "g"
      refine ⟨d, rfl, D2, fun H3 pgv fs c3 D3 r3 W3 => ?_⟩
      walk_at "g"
      refine ⟨d, rfl, D3, fun H4 nf c4 D4 n0 n1 => ?_⟩
      walk_at "g"
      obtain ⟨fu, rfl⟩ : ∃ fu : Nat, nf = (fu : Nat) := ⟨nf.toNat, by omega⟩
      have hfu : fu ≤ 3000 := by omega
      obtain ⟨f0, hf⟩ : ∃ f0, fs[0]? = some f0 := ⟨_, List.getElem?_eq_getElem W3.n1⟩
      have r4 := r3.kt c4.kt
      refine ⟨_, _, rfl, ?_⟩
      walk_at "g"
      refine ⟨pgv, fu, fs, f0, rfl, r4, W3, hf, hfu, fun H5 p0 sa0 ea0 ca0 fi c5 run ep0 es0 ee0 ec0 => ?_⟩
      have WP := W3.ps
      obtain ⟨wf0, sz0⟩ := st0_wf WP hf hfu
      obtain ⟨l1, l2⟩ := run_said WP run wf0 sz0
      obtain ⟨n, pr⟩ := Run.sim WP run wf0 sz0
      rw [t0_conv (W3.f0 f0 hf)] at pr
      have D5 := D4.ch c5 (by simp)
      walk_at "g"
      refine ⟨by decide, by decide, ?_⟩
      refine for_rng (n := 2) (fun j σ' H' => ∃ a u, σ' = [some (.ref sc), some (.ref d), some (.int (i : Nat)), some pgv, some (.int (fu : Nat)), some (.ref p0), a, u] ∧ Ch K [] H5 H') ⟨_, _, rfl, Ch.refl⟩ ?_ ?_
      · rintro j _ H6 hj ⟨a, u, rfl, c6⟩
        walk_at "g"
        refine ⟨pgv, fu, fs, f0, n, fi, rfl, r4.kt (c5.kt.trans c6.kt), W3, hf, hfu, pr, fun H7 p sa ea ca c7 nsa nca nsc ep es ee ec => ?_⟩
        have c67 := c6.trans c7
        walk_at "g"
        have hp : SqT K H7 p [V.ref sa, V.ref ea, V.ref ca] := SqT.of ep
        refine ⟨.ref p, .ref p0, rfl, .tup hp (SqT.of (c67.up _ _ ep0 (by simp))) rfl (by simp) ?_, ?_⟩
        · intro k x y hx hy
          match k with
          | 0 =>
            cases hx
            cases hy
            exact .lst es (c67.up _ _ es0 (by simp)) rfl (by rw [iv_len]; omega) (lk_iv _)
          | 1 =>
            cases hx
            cases hy
            exact .tup ee (c67.sqT ee0) rfl (en_len _) (lk_en _)
          | 2 =>
            cases hx
            cases hy
            exact .lst ec (c67.up _ _ ec0 (by simp)) rfl (by rw [iv_len]; omega) (lk_iv _)
          | k + 3 => simp at hx
        · have hls : SqL K H7 sa (iv fi.said) := SqL.of es
          have hsz : (iv fi.said).length < sizeLine := by rw [iv_len, sizeLine_eq]; omega
          walk_at "g"
          walk_at "no"
          have c8 : Ch K [] H6 (upd H7 sa (.lst (iv fi.said ++ [V.int 0]))) := Ch.wrN c7 nsa es rfl
          have k8 : Kt K H7 (upd H7 sa (.lst (iv fi.said ++ [V.int 0]))) := (Ch.wr (S := [sa]) es rfl (by simp)).kt
          have ec8 : (upd H7 sa (.lst (iv fi.said ++ [V.int 0]))) ca = some (.lst (iv fi.cells)) := by rw [upd_ne (Ne.symm nsc)]; exact ec
          generalize upd H7 sa (.lst (iv fi.said ++ [V.int 0])) = H8 at c8 k8 ec8 ⊢
          have hp8 := k8.t _ _ hp
          have hlc : SqL K H8 ca (iv fi.cells) := SqL.of ec8
          walk_at "g"
          refine ⟨ca, _, rfl, rfl, ec8, ?_⟩
          exact ⟨_, _, rfl, c6.trans (Ch.wrN c8 nca ec8 rfl)⟩
      · rintro _ H6 ⟨a, u, rfl, c6⟩
        exact ⟨_, _, _, _, _, _, rfl, D5.ch c6 (by simp)⟩
    · rintro _ H2 ⟨a, b, x, y, z, u, rfl, D2⟩
      exact q H2
end
end K3
end

section
set_option maxRecDepth 100000
set_option maxHeartbeats 1000000
open Bq L2
/-- one step of a reading; what is left are side goals and places to think -/
local macro_rules | `(tactic| walk_at "g1") => `(tactic| first
  | with_reducible refine' g_seq ?_ | with_reducible refine' g_asg ?_ | with_reducible refine' g_drop ?_ | with_reducible refine' g_ret ?_ | with_reducible refine' g_ifS ?_ | with_reducible refine' g_asgG ?_
  | ((with_reducible refine' g_var ?hv ?_); (case hv => rfl))
  | with_reducible refine' g_c ?_ | with_reducible refine' g_op ?_ | with_reducible refine' g_un ?_ | with_reducible refine' g_I0 ?_ | with_reducible refine' g_U ?_
  | with_reducible refine' g_test ?_ | with_reducible refine' g_tB ?_ | with_reducible refine Exists.intro _ (And.intro rfl ?_) 
  | ((with_reducible refine' g_andP ?ha ?hb ?_); (case ha => intro R q; walk_at "g"; exact q); (case hb => intro R q; walk_at "g"; exact q))
  | ((with_reducible refine' g_orP ?ha ?hb ?_); (case ha => intro R q; walk_at "g"; exact q); (case hb => intro R q; walk_at "g"; exact q))
  | with_reducible refine' g_and ?_ | with_reducible refine' g_or ?_ | with_reducible refine' g_not ?_
  | with_reducible refine' g_andV ?_ | with_reducible refine' g_orV ?_ | with_reducible refine' g_notV ?_ | with_reducible refine' g_if ?_ | with_reducible refine' g_nil ?_ | with_reducible refine' g_cons ?_
  | with_reducible refine' g_tup ?_ | with_reducible refine' g_lst ?_ | with_reducible refine' g_CB ?_ | with_reducible refine' g_Fn ?_ | with_reducible refine' g_next ?_ | with_reducible refine' g_retN ?_
  | with_reducible refine' g_name ?_ | with_reducible refine' g_sub ?_
  | ((with_reducible refine' g_ixL ?hs ?he ?_); (case hs => walk_at "lk"); (case he => walk_at "at"))
  | ((with_reducible refine' g_ixT ?hs ?he ?_); (case hs => walk_at "lk"); (case he => walk_at "at"))
  | ((with_reducible refine' g_setL ?hs ?he ?_); (case hs => walk_at "hp"); (case he => rfl))
  | ((with_reducible refine' g_app ?hs ?hz ?_); (case hs => walk_at "hp"); (case hz => walk_at "sz"))
  | ((with_reducible refine' ⟨_, _, rfl, Or.inl ?hs, ?_⟩); (case hs => walk_at "lk"))
  | ((with_reducible refine' ⟨_, _, rfl, Or.inr ?hs, ?_⟩); (case hs => walk_at "lk"))
  | with_reducible refine' g_BM ?_ | with_reducible refine' g_BM0 ?_ | ((with_reducible refine' g_tyL ?hs ?_); (case hs => walk_at "lk"))
  | with_reducible refine' g_sl ?_ | with_reducible refine' g_noPart ?_ | with_reducible refine' g_part ?_
  | ((with_reducible refine' g_inT ?hs ?fx ?fs ?_); (case hs => walk_at "lk"); (case fx => rfl); (case fs => rfl))
  | with_reducible refine' g_pair ?_ | with_reducible refine' g_pair0 ?_ | with_reducible refine' g_disp ?_
  | with_reducible refine' g_for ?_ | with_reducible refine' g_tupC ?_ | with_reducible refine' g_lstC ?_ | ((with_reducible refine' g_lens ?_)) | with_reducible refine' g_dg ?_ | with_reducible refine' g_lc ?_ | with_reducible refine' g_rng1 ?_ | with_reducible refine' g_ilist ?_ | with_reducible refine' g_itup ?_
  | ((with_reducible refine' ⟨_, _, rfl, ?hd, ?_⟩); (case hd => walk_at "dg"))
  | ((with_reducible refine' g_eqNil ?hs ?hz ?_); (case hs => walk_at "lk"); (case hz => walk_at "lk"))
  | ((with_reducible refine' g_neNil ?hs ?hz ?_); (case hs => walk_at "lk"); (case hz => walk_at "lk"))
  | with_reducible refine Or.inl ⟨_, rfl, ?_⟩
  | with_reducible refine Or.inr ⟨_, rfl, ?_⟩
  | ((with_reducible refine' g_eq ?hs ?_); (case hs => rfl))
  | ((with_reducible refine' g_ne ?hs ?_); (case hs => rfl))
  | ((with_reducible refine' g_I ?hc ?_); (case hc => walk_at "ar")))
/-- arithmetic's side conditions -/
local macro_rules | `(tactic| walk_at "ar") => `(tactic| (first
  | (show (0 : Int) < _; first | omega | decide) | (show (0 : Int) < _ ∧ _; constructor <;> omega) | (show ¬ (_ : Int) = _; omega) | (show (_ : Int) ≠ _ ∧ _; constructor <;> omega)
  | (show (-(2 ^ 64) < _ ∧ _) ∨ _; (first | (left; constructor <;> omega) | (right; constructor <;> omega))) | (show (0 : Int) ≤ _ ∧ _ ∧ _; refine ⟨by omega, by omega, by decide⟩)))
/-- what stands at an index -/
local macro_rules | `(tactic| walk_at "at") => `(tactic| first | rfl | assumption)
/-- what stands at an address -/
local macro_rules | `(tactic| walk_at "hp") => `(tactic| first | assumption | exact upd_same | ((refine' Eq.trans (upd_ne ?hn) ?hm); (case hm => walk_at "hp"); (case hn => walk_at "ne")))
/-- two places are two -/
local macro_rules | `(tactic| walk_at "ne") => `(tactic| first
  | assumption | exact Ne.symm (by assumption)
  | ((refine' ne_of_none ?ha ?hb); (case hb => assumption); (case ha => walk_at "hp")) | ((refine' Ne.symm (ne_of_none ?ha ?hb)); (case hb => assumption); (case ha => walk_at "hp")))
/-- what a dict tells -/
local macro_rules | `(tactic| walk_at "dg") => `(tactic| first | assumption)
/-- a length -/
local macro_rules | `(tactic| walk_at "sz") => `(tactic| first | (show _ ≤ sizeLine; decide) | (show _ < sizeLine; decide) | assumption | exact szlt (by simp) | exact szle (by simp))
/-- a list or tuple that stands -/
local macro_rules | `(tactic| walk_at "lk") => `(tactic| first | assumption | exact SqL.of (by assumption) | exact SqT.of (by assumption) | exact SqL.of upd_same | exact SqT.of upd_same | (refine' FzL.sq ?hm; (case hm => walk_at "fz")))
/-- a list that nobody writes -/
local macro_rules | `(tactic| walk_at "fz") => `(tactic| first | assumption | ((refine' FzL.uw ?hm ?hx); (case hx => walk_at "hp"); (case hm => walk_at "fz")) | ((refine' FzL.nw ?hm ?hx); (case hx => assumption); (case hm => walk_at "fz")))
/-- as far as it goes by itself -/
local macro_rules | `(tactic| walk_at "g") => `(tactic| repeat walk_at "g1")
/-- the body's reading, its places in short -/
local macro_rules | `(tactic| walk_at "go") => `(tactic| ((try dsimp only [cxOf, Cx.nox, Cx.wish]); walk_at "g"))
namespace K3
open PySem PySem.Spec PyProof.Rows L2 Bq
section
variable {P : Program} {w : World} {K : PySem.W.Frag} {mg : Str → Option Value} {base : Heap}
/-! ### what the top has left -/
theorem all_mk {fl : Addr} {h : Heap} (X : K.In h) (G : h.Ns mainGlobals mg) (hfa : mg ("law" : Str) = some (.ref fl)) (c : He.SaysT K3.fa K3.fn K3.ts w K) (t1 : tupsB K = true) (t2 : tabsB K = true)
    (MF : ∀ base : Heap, K.In base → base.Ns mainGlobals mg → MkF P w K mg base) (ML : ∀ base : Heap, K.In base → base.Ns mainGlobals mg → MkL P w K mg base) (XT : XTx K) :
    ∃ fd : FuncData, (∀ (s : Shared) (u : Value), BindsTo s fd ⟨[u], []⟩ [("_law_script", u)]) ∧ ∀ base : Heap, K.In base → base.Ns mainGlobals mg → FnOk P w K mg base CX0 99 fl fd ["_law_script"] (spLaw K) := by
  obtain ⟨fd, F⟩ := c.d.def_ 57 (d := d_law) rfl
  have e := hfa.symm.trans (He.glo_ok X G (c.d.fact 54 (f := .glo "law") rfl))
  cases e
  have b := FunD.bindsA (ps := ["_law_script"]) F fun _ _ _ _ _ _ us hl => match us, hl with | [_], _ => rfl
  exact ⟨fd, fun s v => b s [v] rfl, fun base X' G' => ok_law ⟨c, X', G', t1, t2⟩ (MF base X' G') (ML base X' G') XT F⟩
end
end K3
end

section
set_option maxRecDepth 100000
set_option maxHeartbeats 1000000
open Bq L2
/-- one step of a reading; what is left are side goals and places to think -/
local macro_rules | `(tactic| walk_at "g1") => `(tactic| first
  | with_reducible refine' g_seq ?_ | with_reducible refine' g_asg ?_ | with_reducible refine' g_drop ?_ | with_reducible refine' g_ret ?_ | with_reducible refine' g_ifS ?_ | with_reducible refine' g_asgG ?_
  | ((with_reducible refine' g_var ?hv ?_); (case hv => rfl))
  | with_reducible refine' g_c ?_ | with_reducible refine' g_op ?_ | with_reducible refine' g_un ?_ | with_reducible refine' g_I0 ?_ | with_reducible refine' g_U ?_
  | with_reducible refine' g_test ?_ | with_reducible refine' g_tB ?_ | with_reducible refine Exists.intro _ (And.intro rfl ?_) 
  | ((with_reducible refine' g_andP ?ha ?hb ?_); (case ha => intro R q; walk_at "g"; exact q); (case hb => intro R q; walk_at "g"; exact q))
  | ((with_reducible refine' g_orP ?ha ?hb ?_); (case ha => intro R q; walk_at "g"; exact q); (case hb => intro R q; walk_at "g"; exact q))
  | with_reducible refine' g_and ?_ | with_reducible refine' g_or ?_ | with_reducible refine' g_not ?_
  | with_reducible refine' g_andV ?_ | with_reducible refine' g_orV ?_ | with_reducible refine' g_notV ?_ | with_reducible refine' g_if ?_ | with_reducible refine' g_nil ?_ | with_reducible refine' g_cons ?_
  | with_reducible refine' g_tup ?_ | with_reducible refine' g_lst ?_ | with_reducible refine' g_CB ?_ | with_reducible refine' g_Fn ?_ | with_reducible refine' g_next ?_ | with_reducible refine' g_retN ?_
  | with_reducible refine' g_name ?_ | with_reducible refine' g_sub ?_
  | ((with_reducible refine' g_ixL ?hs ?he ?_); (case hs => walk_at "lk"); (case he => walk_at "at"))
  | ((with_reducible refine' g_ixT ?hs ?he ?_); (case hs => walk_at "lk"); (case he => walk_at "at"))
  | ((with_reducible refine' g_setL ?hs ?he ?_); (case hs => walk_at "hp"); (case he => rfl))
  | ((with_reducible refine' g_app ?hs ?hz ?_); (case hs => walk_at "hp"); (case hz => walk_at "sz"))
  | ((with_reducible refine' ⟨_, _, rfl, Or.inl ?hs, ?_⟩); (case hs => walk_at "lk"))
  | ((with_reducible refine' ⟨_, _, rfl, Or.inr ?hs, ?_⟩); (case hs => walk_at "lk"))
  | with_reducible refine' g_BM ?_ | with_reducible refine' g_BM0 ?_ | ((with_reducible refine' g_tyL ?hs ?_); (case hs => walk_at "lk"))
  | with_reducible refine' g_sl ?_ | with_reducible refine' g_noPart ?_ | with_reducible refine' g_part ?_
  | ((with_reducible refine' g_inT ?hs ?fx ?fs ?_); (case hs => walk_at "lk"); (case fx => rfl); (case fs => rfl))
  | with_reducible refine' g_pair ?_ | with_reducible refine' g_pair0 ?_ | with_reducible refine' g_disp ?_
  | with_reducible refine' g_for ?_ | with_reducible refine' g_tupC ?_ | with_reducible refine' g_lstC ?_ | ((with_reducible refine' g_lens ?_)) | with_reducible refine' g_dg ?_ | with_reducible refine' g_lc ?_ | with_reducible refine' g_rng1 ?_ | with_reducible refine' g_ilist ?_ | with_reducible refine' g_itup ?_
  | ((with_reducible refine' ⟨_, _, rfl, ?hd, ?_⟩); (case hd => walk_at "dg"))
  | ((with_reducible refine' g_eqNil ?hs ?hz ?_); (case hs => walk_at "lk"); (case hz => walk_at "lk"))
  | ((with_reducible refine' g_neNil ?hs ?hz ?_); (case hs => walk_at "lk"); (case hz => walk_at "lk"))
  | with_reducible refine Or.inl ⟨_, rfl, ?_⟩
  | with_reducible refine Or.inr ⟨_, rfl, ?_⟩
  | ((with_reducible refine' g_eq ?hs ?_); (case hs => rfl))
  | ((with_reducible refine' g_ne ?hs ?_); (case hs => rfl))
  | ((with_reducible refine' g_I ?hc ?_); (case hc => walk_at "ar")))
/-- arithmetic's side conditions -/
local macro_rules | `(tactic| walk_at "ar") => `(tactic| (first
  | (show (0 : Int) < _; first | omega | decide) | (show (0 : Int) < _ ∧ _; constructor <;> omega) | (show ¬ (_ : Int) = _; omega) | (show (_ : Int) ≠ _ ∧ _; constructor <;> omega)
  | (show (-(2 ^ 64) < _ ∧ _) ∨ _; (first | (left; constructor <;> omega) | (right; constructor <;> omega))) | (show (0 : Int) ≤ _ ∧ _ ∧ _; refine ⟨by omega, by omega, by decide⟩)))
/-- what stands at an index -/
local macro_rules | `(tactic| walk_at "at") => `(tactic| first | rfl | assumption)
/-- what stands at an address -/
local macro_rules | `(tactic| walk_at "hp") => `(tactic| first | assumption | exact upd_same | ((refine' Eq.trans (upd_ne ?hn) ?hm); (case hm => walk_at "hp"); (case hn => walk_at "ne")))
/-- two places are two -/
local macro_rules | `(tactic| walk_at "ne") => `(tactic| first
  | assumption | exact Ne.symm (by assumption)
  | ((refine' ne_of_none ?ha ?hb); (case hb => assumption); (case ha => walk_at "hp")) | ((refine' Ne.symm (ne_of_none ?ha ?hb)); (case hb => assumption); (case ha => walk_at "hp")))
/-- what a dict tells -/
local macro_rules | `(tactic| walk_at "dg") => `(tactic| first | assumption)
/-- a length -/
local macro_rules | `(tactic| walk_at "sz") => `(tactic| first | (show _ ≤ sizeLine; decide) | (show _ < sizeLine; decide) | assumption | exact szlt (by simp) | exact szle (by simp))
/-- a list or tuple that stands -/
local macro_rules | `(tactic| walk_at "lk") => `(tactic| first | assumption | exact SqL.of (by assumption) | exact SqT.of (by assumption) | exact SqL.of upd_same | exact SqT.of upd_same | (refine' FzL.sq ?hm; (case hm => walk_at "fz")))
/-- a list that nobody writes -/
local macro_rules | `(tactic| walk_at "fz") => `(tactic| first | assumption | ((refine' FzL.uw ?hm ?hx); (case hx => walk_at "hp"); (case hm => walk_at "fz")) | ((refine' FzL.nw ?hm ?hx); (case hx => assumption); (case hm => walk_at "fz")))
/-- as far as it goes by itself -/
local macro_rules | `(tactic| walk_at "g") => `(tactic| repeat walk_at "g1")
/-- the body's reading, its places in short -/
local macro_rules | `(tactic| walk_at "go") => `(tactic| ((try dsimp only [cxOf, Cx.nox, Cx.wish]); walk_at "g"))
namespace K3
open PySem PySem.Spec PyProof.Rows L2 Bq
section
variable {P : Program} {w : World} {K : PySem.W.Frag} {mg : Str → Option Value} {base : Heap}
/-! ### how a Fault is made -/
section
open PySem.W PySem.Calls PyProof.Rows PySem.HandSPX
abbrev fS : Stmt := s_Fault_init
/-- what the written part says of Fault, at C, and of its __init__, at fI -/
structure FaultTxt (P : Program) (K : Frag) (mg : Str → Option Value) (C fI : Addr) : Prop where
  gC : mg "Fault" = some (.ref C)
  cls : ∃ nm q N bs sn sub ab col dd k0 k1 k2 k3 k5, K.lookup C = some (excClassObj nm q C N bs ESX.exTail true sn sub ab col dd k0 k1 k2 k3 k5 "Exception.__new__")
  sa : findIn K (.ref C) "__setattr__" = some (some (.builtin "object.__setattr__"))
  noN : findIn K (.ref C) "word" = some none
  iC : findIn K (.ref C) "__init__" = some (some (.ref fI))
  tC : typeIn K (.ref fI) = some (.type "function")
  kC : keepIn K (.ref C) = true
  exC : subIn K (.ref C) (.type "BaseException") = some true
  tyC : typeIn K (.ref C) = some (.type "type")
  any : nsIn K cStatics "thirdparty.any" = some none
  su : mg "super" = none
  fn : ∃ (oc : Value) (od : Option Addr) (doc pm : Value) (an : Option Addr) (ct : Value) (osl : Array (Option Value)) (cc cda : Addr),
    K.lookup fI = some ⟨oc, od, .func (ksFn "__init__" "Fault.__init__" (defArgs fS) (defBody fS) (defScope fS) .none .none doc pm an (.ref cda) ct cc), osl⟩ ∧ codeIn K (.ref cda) "Fault.__init__" = true ∧
    (∃ ccl cdd vs ccs file tf, K.lookup cda = some ⟨ccl, cdd, .fields vs, ccs⟩ ∧ vs[2]? = some (.str file tf) ∧ ((P.main.file : Str) == file) = true) ∧ ∃ cl cld csl, K.lookup cc = some ⟨cl, cld, .cell (some (.ref C)), csl⟩
  top : (P.main.scope.names.lookup ("super" : Str)).isSome = false
structure InitEnd (h h' : Heap) (x C dx t1 : Addr) (v : Value) : Prop where
  keep : ∀ b o, b ≠ x → h.get? b = some o → h'.get? b = some o
  obj : h'.get? x = some { cls := .ref C, dict := some dx, data := .fields #[.ref t1, .none, .none, .none, .bool false, .none] }
  dbig : h.objs.size ≤ dx
  dne : dx ≠ x
  ns : h'.Ns1 dx (fun y => if y = "word" then some v else none)
theorem fcell : ∀ x ∈ (defScope fS).names, x.2 ≠ .cell := by decide +kernel
theorem fself : (defScope fS).names.lookup ("self" : Str) = some .local := by decide +kernel
theorem fword : (defScope fS).names.lookup ("word" : Str) = some .local := by decide +kernel
theorem fsup : (defScope fS).names.lookup ("super" : Str) = some .globalImplicit := by decide +kernel
theorem fcls : (defScope fS).names.lookup ("__class__" : Str) = some .free := by decide +kernel
theorem fco : (defScope fS).isCoroutine = false := by decide +kernel
theorem fgen : (defScope fS).isGenerator = false := by decide +kernel
theorem fkind : (defScope fS).kind = .function := by decide +kernel
variable {prog : Program} {A : Around} {E : Value → Shared → Prop} {R : Result → Shared → Prop} {s : Shared} {C fI : Addr}
theorem fault_init (T : FaultTxt prog K mg C fI) {x t0 : Addr} {z : Str} {tz : Tok} (hz : z.length ≤ 1000) (X : K.In s.heap) (G : s.heap.Ns mainGlobals mg) (B : ∃ mb, s.heap.Ns builtinsNs mb ∧ ∀ x : Str, x ≠ "__name__" → mb x = bootBuiltins x) (hlim : s.heap.NoLimit)
    (hx : s.heap.get? x = some (excO C t0)) (hnx : K.lookup x = none) (hroom : A.depth < recursionLimit)
    (hq : ∀ h' tk dx t1, InitEnd s.heap h' x C dx t1 (.str z tz) → R (.ok (.ret .none)) { s with heap := h', toks := tk }) :
    codeAny (model prog w) A (.call (.ref fI) ⟨[.ref x, .str z tz], []⟩) R s := by
  obtain ⟨oc, od, doc, pm, an, ct, osl, cc, cda, ho, hcd, ⟨ccl, cdd, vs, ccs, file, tf, hcda, hvs, hfile⟩, cl, cld, csl, hcell⟩ := T.fn
  obtain ⟨nm, q, N, bs, sn, sub, ab, col, dd, k0, k1, k2, k3, k5, hC⟩ := T.cls
  have hcl : clsIn K C = some { name := nm, bases := bs, mro := .ref C :: ESX.exTail, ns := N, qualname := q, hasDict := true, slotNames := sn, subclasses := sub, abstract := ab, collection := col, hasDel := false } := by unfold clsIn; rw [hC] <;> rfl
  refine ks_codeAny_call_defAt (binds := [("self", .ref x), ("word", .str z tz)]) hroom (X _ _ ho) rfl hlim (codeRec_of X hcd) rfl (BindsTo.of_eq (by first | rfl | with_unfolding_all rfl)) fcell (fun y hy => ?_) (fun h₀ hns k => ?_) fco fgen fkind
  · rcases List.mem_cons.mp hy with rfl | hy
    · exact fself
    · rcases List.mem_cons.mp hy with rfl | hy
      · exact fword
      · cases hy
  have X₀ : K.In h₀ := X.keeps k
  have hx₀ := k _ _ hx
  have G₀ := G.keeps k
  obtain ⟨mb, B1, B2⟩ := B
  have B₀ := B1.keeps k
  have hC₀ : h₀.get? C = some _ := X₀ _ _ hC
  have nmg : mg "super" = none := T.su
  have xC : x ≠ C := fun e => by
    rw [e, hC] at hnx
    cases hnx
  have IX : W.InstAt h₀ x (excO C t0) C none := ⟨hx₀, rfl, rfl, trivial⟩
  have hsub : mroIn K C (.ref C) = some true := ESX.mro_has hcl rfl (by rw [List.contains_cons]; simp)
  have hsubE : mroIn K C (.type "Exception") = some true := ESX.mro_has hcl rfl (ESX.tail_has "Exception" (by decide +kernel))
  refine ks_wpAt_execs_cons (ks_wpAt_Expr_any (ks_wpAt_MethodCall (ks_wpAt_super_base (ar := ⟨"self", none, ⟨128, 17, 128, 21⟩⟩) (by exact fsup) (by exact fcls) (by decide) rfl (X₀ _ _ ho) rfl (by rfl) rfl (X₀ _ _ hcda) rfl hvs hfile T.top ?_)))
  refine ks_loadName_global fkind fsup (loadGlobal_builtin G₀ nmg B₀ (B2 "super" (by decide +kernel)) ⟨rfl, ?_⟩)
  refine wpAny_loadName_free fkind fcls rfl ⟨_, X₀ _ _ hcell, rfl⟩ ?_
  refine wpAny_loadName_local fkind fself hns rfl ?_
  refine ks_wpAny_isType_cls hC₀ rfl ⟨rfl, ?_⟩
  refine ks_wpAny_call_super hC₀ rfl hx₀ rfl (fun c e => ?_) (looks_mroIn X₀ hsub) (fun h1 e1 k1 => ?_)
  · cases e
  have X1 := X₀.keeps k1
  have IX1 : W.InstAt h1 x (excO C t0) C none := ⟨k1 _ _ hx₀, rfl, rfl, trivial⟩
  refine ESX.getMethod_super (l₀ := .ref C :: ESX.exTail) (l := ESX.exTail) (K := K) e1 (looks_opaque X1 T.any) (fun A Q E s k q => wpAny_bind ((looks_clsIn X1 hcl) A _ E s k (wpAny_pure q))) (ESX.drop_own C _) X1 (ESX.along_init K) xC (by decide) (IX1.type.andThen (looks_mroIn X1 hsubE)) ?_
  have k2 : ∀ b o, h1.get? b = some o → (h1.push (ESX.bw x)).get? b = some o := fun b o e => Heap.get?_push_of_some _ e
  have hu : (h1.push (ESX.bw x)).get? h1.objs.size = some (ESX.bw x) := Heap.get?_push_size _ rfl
  have hns2 := hns.keeps (fun b o e => k2 b o (k1 b o e))
  refine ESX.callWith_bound (x := x) (args_cons ?_ rfl)
  have hx2 := k2 _ _ (k1 _ _ hx₀)
  have hC2 := k2 _ _ (k1 _ _ hC₀)
  have lz : (((Str.empty ++ ("fault: " : Str)) ++ z : Str)).length ≤ sizeLine := by
    rw [sizeLine_eq]
    have e1 : ∀ a b : Str, (a ++ b : Str).length = a.length + b.length := fun a b => Array.size_append
    rw [e1, e1]
    have e2 : (Str.empty : Str).length = 0 := rfl
    have e3 : (("fault: " : Str)).length = 7 := by decide +kernel
    omega
  have l0 : ((Str.empty ++ ("fault: " : Str) : Str)).length ≤ sizeLine := by
    rw [sizeLine_eq]
    decide +kernel
  refine wpAny_JoinedStr ?_
  show wpAny _ _ (eval (.Constant (.str "fault: ") 0 _) _) _ _ _
  refine Calls.Constant_str ⟨_, _, rfl, l0, ?_⟩
  show wpAny _ _ (eval (.FormattedValue (.Name "word" _) (-1) none _) _) _ _ _
  refine wpAny_FormattedValue_plain (ESX.ldL (v := .str z tz) hns2 rfl ?_ fkind fword (by decide +kernel))
  have lzz : z.length ≤ sizeLine := by rw [sizeLine_eq]; omega
  refine wpAny_formatField_str ⟨z, _, rfl, lz, lz, args_nil ⟨hu, ?_⟩⟩ ⟨z, _, rfl, lz, lz, args_nil ⟨hu, ?_⟩⟩ lzz
  all_goals
    refine ESX.call_bw hC2 hx2 hu (by show 1 ≤ sizeLine; rw [sizeLine_eq]; decide) (fun h3 t1 k3 hx3 => ?_)
    have hnx2 : ∀ b o, K.lookup b = some o → b ≠ x := fun b o e z => by rw [z, hnx] at e; cases e
    have X3 : K.In h3 := fun b o e => k3 b o (hnx2 b o e) (k2 _ _ (k1 _ _ (X₀ b o e)))
    have nL : s.heap.objs.size ≠ x := Nat.ne_of_gt (Heap.lt_size hx)
    have hns3 := hns2.at fun o e => k3 _ o nL e
    refine ks_wpAt_execs_cons (ks_wpAt_Assign_Attr (wpAt_of_wpAny (ESX.ldL (v := .str z tz) hns3 rfl (ESX.ldL (v := .ref x) hns3 rfl ?_ fkind fself (by decide +kernel)) fkind fword (by decide +kernel))))
    refine set_plain X3 (ox := excO C t1) (od := none) ⟨hx3, rfl, rfl, trivial⟩ T.sa ?_
    refine ESX.osa_new X3 hx3 hcl rfl rfl T.noN (fun h4 tk4 dx k4 dn dne hx4 hn4 => ?_)
    refine wpAt_of_wpAny (wpAny_execs_nil ?_)
    have z1 : s.heap.objs.size < h3.objs.size := hns3.lt
    exact hq h4 tk4 dx t1 ⟨fun b o hb e => k4 b o hb (k3 b o hb (k2 _ _ (k1 _ _ (k b o e)))), hx4, Nat.le_of_lt (Nat.lt_of_lt_of_le z1 dn), dne, hn4⟩
/-- a made Fault -/
structure OwnMade (h h' : Heap) (e C d : Addr) (v : Value) : Prop where
  keep : ∀ b o, h.get? b = some o → h'.get? b = some o
  new : h.objs.size ≤ e
  obj : ∃ oe vs, h'.get? e = some oe ∧ oe.cls = .ref C ∧ oe.dict = some d ∧ oe.data = .fields vs ∧ vs[1]? = some .none
  dbig : h.objs.size ≤ d
  dne : d ≠ e
  ns : h'.Ns1 d (fun y => if y = "word" then some v else none)
theorem fault_made (T : FaultTxt prog K mg C fI) {z : Str} {tz : Tok} (hz : z.length ≤ 1000) (X : K.In s.heap) (G : s.heap.Ns mainGlobals mg) (B : ∃ mb, s.heap.Ns builtinsNs mb ∧ ∀ x : Str, x ≠ "__name__" → mb x = bootBuiltins x) (hlim : s.heap.NoLimit) (hroom : A.depth + 1 < recursionLimit)
    (hq : ∀ h' tk e d, OwnMade s.heap h' e C d (.str z tz) → R (.ok (.ret (.ref e))) { s with heap := h', toks := tk }) :
    codeAny (model prog w) A (.call (.ref C) ⟨[.str z tz], []⟩) R s := by
  obtain ⟨nm, q, N, bs, sn, sub, ab, col, dd, k0, k1, k2, k3, k5, hC⟩ := T.cls
  obtain ⟨hp, g, dr, tk, os⟩ := s
  have k : ∀ b o, hp.get? b = some o → ((hp.push (kdv_tup [.str z tz])).push (excO C hp.objs.size)).get? b = some o := fun b o e => Heap.get?_push_of_some _ (Heap.get?_push_of_some _ e)
  have hget : ((hp.push (kdv_tup [.str z tz])).push (excO C hp.objs.size)).get? (hp.objs.size + 1) = some (excO C hp.objs.size) := by heap_get
  have hnx : K.lookup (hp.objs.size + 1) = none := by
    cases e : K.lookup (hp.objs.size + 1) with
    | none => rfl
    | some o =>
      have z : hp.get? (hp.objs.size + 1) = some o := X _ _ e
      exact absurd (Nat.lt_of_succ_lt (Heap.lt_size z)) (Nat.lt_irrefl _)
  obtain ⟨mb, B1, B2⟩ := B
  refine call_own PySem.F.excBase_Exception (fun _ => rfl) (X _ _ hC) (looks_findIn X T.iC) (fun self => bind_fn X self T.tC) (by show 1 ≤ sizeLine; rw [sizeLine_eq]; decide) ?_
  refine fault_init (s := ⟨(hp.push (kdv_tup [.str z tz])).push (excO C hp.objs.size), g, dr, tk, os⟩) T hz (X.keeps k) (G.keeps k) ⟨mb, B1.keeps k, B2⟩ (hlim.keeps k) hget hnx ?_ fun h' tk' dx t1 ⟨k', hx, dn, dne, hns⟩ => ?_
  · show A.depth + 1 < recursionLimit
    exact hroom
  · have old : ∀ b o, hp.get? b = some o → h'.get? b = some o := fun b o e => k' b o (Nat.ne_of_lt (Nat.lt_succ_of_lt (Heap.lt_size e))) (k b o e)
    have z : hp.objs.size + 1 + 1 ≤ dx := by
      first
        | (simpa only [Heap.size_push] using dn)
        | exact dn
        | (have q := dn; rw [Heap.size_push, Heap.size_push] at q; exact q)
    exact ⟨rfl, hq h' tk' (hp.objs.size + 1) dx ⟨old, Nat.le_succ _, ⟨_, _, hx, rfl, rfl, rfl, rfl⟩, Nat.le_trans (Nat.le_trans (Nat.le_succ _) (Nat.le_succ _)) z, dne, hns⟩⟩
end
open PySem.W
theorem relO_word {v : V} {v' : Value} (r : RelV v v') (f : Str) : RelO (List.lookup f [(("word" : Str), v)]) (if f = "word" then some v' else none) := by
  by_cases hw : f = "word"
  · subst hw
    rw [if_pos rfl]
    have q : List.lookup ("word" : Str) [(("word" : Str), v)] = some v := by simp [List.lookup]
    rw [q]
    exact r
  · rw [if_neg hw]
    have qw : (f == ("word" : Str)) = false := by simpa using hw
    have q2 : List.lookup f [(("word" : Str), v)] = none := by simp [List.lookup, qw]
    rw [q2]
    trivial
theorem mkF_ok {fI : Addr} (T : FaultTxt P K mg (He.ga K "Fault") fI) : MkF P w K mg base := by
  intro X k j z p pos p2 e1 e2 e3 e4 e5 hr hk hz hg
  subst e1 e2 e3 e4 e5
  intro pins s σ H Q I h
  refine wpAny_Call_Name_kw (ld_glob I hg T.gC ?_)
  have ha : PA X [.Constant (.str z) j p2] (tCons (tC (.str z)) tNil) := pa_cons pe_str pa_nil
  refine PySem.W.callWith_K (h₀ := X.base) I.ok.mod.kin T.kC (thn (ha.run pos pins s σ H (fun vs H1 => vs = [V.str z] ∧ H1 = H) I ⟨rfl, rfl⟩) fun us s1 hh => ?_)
  obtain ⟨vs, H1, I1, r1, ev, eh⟩ := hh
  subst ev eh
  refine ⟨I1.kIn, ?_⟩
  cases r1 with
  | cons rv rn =>
    rename_i v' us'
    cases rn
    obtain ⟨tz, rfl⟩ := rv
    show wpAny _ _ (call (.ref (He.ga X.K "Fault")) [.str z tz]) _ _ _
    have hlim := I1.nolimit
    obtain ⟨mb, b1, b2⟩ := I1.mod.blt
    have G1 := I1.mod.glob.keeps I1.bk
    obtain ⟨hp, g, dr, tk, os⟩ := s1
    refine wpAny_call (fault_made T hz I1.kIn G1 ⟨mb, b1.keeps I1.bk, b2⟩ hlim (by have := hr.dp; omega) fun h' tk' e d M => ?_)
    show MkP X pins σ Q (.ref e) ⟨h', g, dr, tk', os⟩
    obtain ⟨oe, fv, hoe, hc, hd, hdat, h1⟩ := M.obj
    have hns := M.ns
    obtain ⟨G', g1, g2⟩ := restrict h' fun b => decide (b ≠ e)
    have gk : ∀ b, b ≠ e → G'.get? b = h'.get? b := fun b hb => g1 b (decide_eq_true hb)
    have ge : G'.get? e = none := g2 e (by simp)
    have old : ∀ b o, hp.get? b = some o → G'.get? b = some o := fun b o q => (gk b (Nat.ne_of_lt (Nat.lt_of_lt_of_le (Heap.lt_size q) M.new))).trans (M.keep b o q)
    have ob : ObjOk X.prog X.w (upd H1 d (.xd [(("word" : Str), .str z)])) G' d (.xd [(("word" : Str), .str z)]) :=
      ⟨_, hns.at (fun o q => (gk d M.dne).trans q), fun f => relO_word (v := .str z) (v' := .str z tz) ⟨tz, rfl⟩ f⟩
    have nd : H1 d = none := I1.hok.fresh M.dbig
    have J : Inv X pins σ (upd H1 d (.xd [(("word" : Str), .str z)])) ⟨G', g, dr, tk', os⟩ := I1.laid (t' := tk') old M.dbig ob
    refine ⟨e, oe, fv, ⟨G', g, dr, tk', os⟩, _, .ref (He.ga X.K "Fault"), some d, rfl, J, fun b o q => ?_, ge, hoe, ⟨hc, hd⟩, hdat, h1, ?_, rfl, I1.bare, raises_own T.exC T.tyC, h d _ nd (Ch.new nd) upd_same⟩
    · by_cases hb : b = e
      · have q' : G'.get? b = some o := q
        rw [hb, ge] at q'; cases q'
      · exact (gk b hb).symm.trans q
    · rw [upd_ne (Ne.symm M.dne)]
      exact I1.hok.fresh M.new
/-- what the written part says of Long -/
structure LongTxt (K : Frag) (mg : Str → Option Value) (C : Addr) : Prop where
  gC : mg "Long" = some (.ref C)
  exc : excIn K C [.type "Exception", .type "BaseException", .type "object"] "Exception.__new__" = true
  kC : keepIn K (.ref C) = true
  exC : subIn K (.ref C) (.type "BaseException") = some true
  tyC : typeIn K (.ref C) = some (.type "type")
theorem mkL_ok (T : LongTxt K mg (He.ga K "Long")) : MkL P w K mg base := by
  intro X p pos e1 e2 e3 e4 e5 hg
  subst e1 e2 e3 e4 e5
  intro pins s σ H Q I h
  refine wpAny_Call_Name_kw (ld_glob I hg T.gC ?_)
  refine PySem.W.callWith_K0 I.kIn T.kC ?_
  show wpAny _ _ (call (.ref (He.ga X.K "Long")) []) _ _ _
  obtain ⟨bm, N, nm, qn, bs, hdct, sn, sub, ab, col, dd, k0, k1, k2, k3, k5, mN, hC, hN, hni, T2⟩ := exc_obj I.kIn T.exc
  refine wpAny_call_exc_subT PySem.F.excBase_Exception T2 hC hN hni (fun h' e hm => ?_) (by show 0 ≤ sizeLine; exact Nat.zero_le _)
  exact mk_of I hm (raises_own T.exC T.tyC) h (I.hok.gone hm.new)
end
end K3
end

section
set_option maxRecDepth 100000
set_option maxHeartbeats 1000000
open Bq L2
/-- one step of a reading; what is left are side goals and places to think -/
local macro_rules | `(tactic| walk_at "g1") => `(tactic| first
  | with_reducible refine' g_seq ?_ | with_reducible refine' g_asg ?_ | with_reducible refine' g_drop ?_ | with_reducible refine' g_ret ?_ | with_reducible refine' g_ifS ?_ | with_reducible refine' g_asgG ?_
  | ((with_reducible refine' g_var ?hv ?_); (case hv => rfl))
  | with_reducible refine' g_c ?_ | with_reducible refine' g_op ?_ | with_reducible refine' g_un ?_ | with_reducible refine' g_I0 ?_ | with_reducible refine' g_U ?_
  | with_reducible refine' g_test ?_ | with_reducible refine' g_tB ?_ | with_reducible refine Exists.intro _ (And.intro rfl ?_) 
  | ((with_reducible refine' g_andP ?ha ?hb ?_); (case ha => intro R q; walk_at "g"; exact q); (case hb => intro R q; walk_at "g"; exact q))
  | ((with_reducible refine' g_orP ?ha ?hb ?_); (case ha => intro R q; walk_at "g"; exact q); (case hb => intro R q; walk_at "g"; exact q))
  | with_reducible refine' g_and ?_ | with_reducible refine' g_or ?_ | with_reducible refine' g_not ?_
  | with_reducible refine' g_andV ?_ | with_reducible refine' g_orV ?_ | with_reducible refine' g_notV ?_ | with_reducible refine' g_if ?_ | with_reducible refine' g_nil ?_ | with_reducible refine' g_cons ?_
  | with_reducible refine' g_tup ?_ | with_reducible refine' g_lst ?_ | with_reducible refine' g_CB ?_ | with_reducible refine' g_Fn ?_ | with_reducible refine' g_next ?_ | with_reducible refine' g_retN ?_
  | with_reducible refine' g_name ?_ | with_reducible refine' g_sub ?_
  | ((with_reducible refine' g_ixL ?hs ?he ?_); (case hs => walk_at "lk"); (case he => walk_at "at"))
  | ((with_reducible refine' g_ixT ?hs ?he ?_); (case hs => walk_at "lk"); (case he => walk_at "at"))
  | ((with_reducible refine' g_setL ?hs ?he ?_); (case hs => walk_at "hp"); (case he => rfl))
  | ((with_reducible refine' g_app ?hs ?hz ?_); (case hs => walk_at "hp"); (case hz => walk_at "sz"))
  | ((with_reducible refine' ⟨_, _, rfl, Or.inl ?hs, ?_⟩); (case hs => walk_at "lk"))
  | ((with_reducible refine' ⟨_, _, rfl, Or.inr ?hs, ?_⟩); (case hs => walk_at "lk"))
  | with_reducible refine' g_BM ?_ | with_reducible refine' g_BM0 ?_ | ((with_reducible refine' g_tyL ?hs ?_); (case hs => walk_at "lk"))
  | with_reducible refine' g_sl ?_ | with_reducible refine' g_noPart ?_ | with_reducible refine' g_part ?_
  | ((with_reducible refine' g_inT ?hs ?fx ?fs ?_); (case hs => walk_at "lk"); (case fx => rfl); (case fs => rfl))
  | with_reducible refine' g_pair ?_ | with_reducible refine' g_pair0 ?_ | with_reducible refine' g_disp ?_
  | with_reducible refine' g_for ?_ | with_reducible refine' g_tupC ?_ | with_reducible refine' g_lstC ?_ | ((with_reducible refine' g_lens ?_)) | with_reducible refine' g_dg ?_ | with_reducible refine' g_lc ?_ | with_reducible refine' g_rng1 ?_ | with_reducible refine' g_ilist ?_ | with_reducible refine' g_itup ?_
  | ((with_reducible refine' ⟨_, _, rfl, ?hd, ?_⟩); (case hd => walk_at "dg"))
  | ((with_reducible refine' g_eqNil ?hs ?hz ?_); (case hs => walk_at "lk"); (case hz => walk_at "lk"))
  | ((with_reducible refine' g_neNil ?hs ?hz ?_); (case hs => walk_at "lk"); (case hz => walk_at "lk"))
  | with_reducible refine Or.inl ⟨_, rfl, ?_⟩
  | with_reducible refine Or.inr ⟨_, rfl, ?_⟩
  | ((with_reducible refine' g_eq ?hs ?_); (case hs => rfl))
  | ((with_reducible refine' g_ne ?hs ?_); (case hs => rfl))
  | ((with_reducible refine' g_I ?hc ?_); (case hc => walk_at "ar")))
/-- arithmetic's side conditions -/
local macro_rules | `(tactic| walk_at "ar") => `(tactic| (first
  | (show (0 : Int) < _; first | omega | decide) | (show (0 : Int) < _ ∧ _; constructor <;> omega) | (show ¬ (_ : Int) = _; omega) | (show (_ : Int) ≠ _ ∧ _; constructor <;> omega)
  | (show (-(2 ^ 64) < _ ∧ _) ∨ _; (first | (left; constructor <;> omega) | (right; constructor <;> omega))) | (show (0 : Int) ≤ _ ∧ _ ∧ _; refine ⟨by omega, by omega, by decide⟩)))
/-- what stands at an index -/
local macro_rules | `(tactic| walk_at "at") => `(tactic| first | rfl | assumption)
/-- what stands at an address -/
local macro_rules | `(tactic| walk_at "hp") => `(tactic| first | assumption | exact upd_same | ((refine' Eq.trans (upd_ne ?hn) ?hm); (case hm => walk_at "hp"); (case hn => walk_at "ne")))
/-- two places are two -/
local macro_rules | `(tactic| walk_at "ne") => `(tactic| first
  | assumption | exact Ne.symm (by assumption)
  | ((refine' ne_of_none ?ha ?hb); (case hb => assumption); (case ha => walk_at "hp")) | ((refine' Ne.symm (ne_of_none ?ha ?hb)); (case hb => assumption); (case ha => walk_at "hp")))
/-- what a dict tells -/
local macro_rules | `(tactic| walk_at "dg") => `(tactic| first | assumption)
/-- a length -/
local macro_rules | `(tactic| walk_at "sz") => `(tactic| first | (show _ ≤ sizeLine; decide) | (show _ < sizeLine; decide) | assumption | exact szlt (by simp) | exact szle (by simp))
/-- a list or tuple that stands -/
local macro_rules | `(tactic| walk_at "lk") => `(tactic| first | assumption | exact SqL.of (by assumption) | exact SqT.of (by assumption) | exact SqL.of upd_same | exact SqT.of upd_same | (refine' FzL.sq ?hm; (case hm => walk_at "fz")))
/-- a list that nobody writes -/
local macro_rules | `(tactic| walk_at "fz") => `(tactic| first | assumption | ((refine' FzL.uw ?hm ?hx); (case hx => walk_at "hp"); (case hm => walk_at "fz")) | ((refine' FzL.nw ?hm ?hx); (case hx => assumption); (case hm => walk_at "fz")))
/-- as far as it goes by itself -/
local macro_rules | `(tactic| walk_at "g") => `(tactic| repeat walk_at "g1")
/-- the body's reading, its places in short -/
local macro_rules | `(tactic| walk_at "go") => `(tactic| ((try dsimp only [cxOf, Cx.nox, Cx.wish]); walk_at "g"))
namespace K3
open PySem PySem.Spec PyProof.Rows L2 Bq
section
variable {P : Program} {w : World} {K : PySem.W.Frag} {mg : Str → Option Value} {base : Heap}
/-! ### the whole -/
section
open PySem.W
theorem ga_of {x : Str} {a : Addr} (h : nsIn K mainGlobals x = some (some (.ref a))) : He.ga K x = a := by
  unfold He.ga
  rw [h]
theorem fin_mk {fl : Addr} {h : Heap} (X : K.In h) (G : h.Ns mainGlobals mg) (hfa : mg ("law" : Str) = some (.ref fl)) {C L fI cc cda : Addr}
    {nm q : Str} {N : Addr} {bs : List Value} {sn : List Str} {sub : List Value} {ab : Bool} {col : Option Bool} {dd : Option Addr} {k0 k1 k2 k3 k5 : Option Value}
    {oc : Value} {od : Option Addr} {doc pm : Value} {an : Option Addr} {ct : Value} {osl : Array (Option Value)} {ccl : Value} {cdd : Option Addr} {vs : Array Value} {ccs : Array (Option Value)} {file : Str} {tf : Tok} {cl : Value} {cld : Option Addr} {csl : Array (Option Value)}
    (aC : nsIn K mainGlobals "Fault" = some (some (.ref C))) (aL : nsIn K mainGlobals "Long" = some (some (.ref L)))
    (xC : K.lookup C = some (excClassObj nm q C N bs ESX.exTail true sn sub ab col dd k0 k1 k2 k3 k5 "Exception.__new__"))
    (iC : findIn K (.ref C) "__init__" = some (some (.ref fI)))
    (lI : K.lookup fI = some ⟨oc, od, .func (ksFn "__init__" "Fault.__init__" (defArgs fS) (defBody fS) (defScope fS) .none .none doc pm an (.ref cda) ct cc), osl⟩)
    (cI : codeIn K (.ref cda) "Fault.__init__" = true)
    (lc : K.lookup cda = some ⟨ccl, cdd, .fields vs, ccs⟩) (hv : vs[2]? = some (.str file tf)) (hfile : ((P.main.file : Str) == file) = true)
    (lcell : K.lookup cc = some ⟨cl, cld, .cell (some (.ref C)), csl⟩)
    (tC : typeIn K (.ref fI) = some (.type "function"))
    (sa : findIn K (.ref C) "__setattr__" = some (some (.builtin "object.__setattr__")))
    (noN : findIn K (.ref C) "word" = some none)
    (kC : keepIn K (.ref C) = true) (exC : subIn K (.ref C) (.type "BaseException") = some true) (tyC : typeIn K (.ref C) = some (.type "type"))
    (any : nsIn K cStatics "thirdparty.any" = some none) (su : nsIn K mainGlobals "super" = some none)
    (top : (P.main.scope.names.lookup ("super" : Str)).isSome = false)
    (ga : findIn K (.ref C) "__getattribute__" = some (some (.builtin "BaseException.__getattribute__"))) (gg : findIn K (.ref C) "__getattr__" = some none) (hd : hasDictIn K C = true)
    (xL : excIn K L [.type "Exception", .type "BaseException", .type "object"] "Exception.__new__" = true) (kL : keepIn K (.ref L) = true) (exL : subIn K (.ref L) (.type "BaseException") = some true) (tyL : typeIn K (.ref L) = some (.type "type"))
    (ff : exmOne K (.ref C) (.ref C) = some true) (lf : exmOne K (.ref L) (.ref C) = some false) (ll : exmOne K (.ref L) (.ref L) = some true)
    (c : He.SaysT K3.fa K3.fn K3.ts w K) (t1 : tupsB K = true) (t2 : tabsB K = true) :
    ∃ fd : FuncData, (∀ (s : Shared) (u : Value), BindsTo s fd ⟨[u], []⟩ [("_law_script", u)]) ∧ ∀ base : Heap, K.In base → base.Ns mainGlobals mg → FnOk P w K mg base CX0 99 fl fd ["_law_script"] (spLaw K) := by
  have eC := ga_of aC
  have eL := ga_of aL
  have gC : mg "Fault" = some (.ref C) := mg_of X G aC
  have gL : mg "Long" = some (.ref L) := mg_of X G aL
  have FT : FaultTxt P K mg (He.ga K "Fault") fI := by
    rw [eC]
    exact ⟨gC, ⟨nm, q, N, bs, sn, sub, ab, col, dd, k0, k1, k2, k3, k5, xC⟩, sa, noN, iC, tC, kC, exC, tyC, any, mg_none_of X G su, ⟨oc, od, doc, pm, an, ct, osl, cc, cda, lI, cI, ⟨ccl, cdd, vs, ccs, file, tf, lc, hv, hfile⟩, cl, cld, csl, lcell⟩, top⟩
  have LT : LongTxt K mg (He.ga K "Long") := by
    rw [eL]
    exact ⟨gL, xL, kL, exL, tyL⟩
  have XT : XTx K := by
    refine ⟨?_, ?_, ?_, ?_, ?_⟩
    · rw [eC]; exact ⟨ga, gg, exC, hd⟩
    · rw [eC]; exact noN
    · rw [eC]; exact ff
    · rw [eC, eL]; exact lf
    · rw [eL]; exact ll
  exact all_mk X G hfa c t1 t2 (fun base _ _ => mkF_ok FT) (fun base _ _ => mkL_ok LT) XT
end
end
end K3
end

section
set_option maxRecDepth 100000
set_option maxHeartbeats 0
open PySem PySem.W PyProof.Rows
theorem PySem.Challenge.cw_queuemill_k03_by_its_text_holds : PySem.Challenge.rw_queuemill_k03_by_its_text.Holds := by
  w_on; o_law; k_head; (case hw => w_witness2)
  k_fill
  refine L2.walk_ofK (l := PySem.Challenge.rw_queuemill_k03_by_its_text) (n := 63) (k := 99) (x := "_law_script") (CX := L2.CX0) (sp := K3.spLaw) rfl (by decide) rfl ⟨rfl, by decide, by decide⟩ (fun w h Y => PySem.W.kIn_of Y) ?F (fun K H a ns hl hO hS => ⟨a, ns, rfl, Bq.FzL.of hO hS, hl, fun _ => rfl⟩) (fun _ _ _ _ z => z)
  case F =>
    intro w mg fa h KX G hmg
    refine' K3.fin_mk KX G hmg ?aC ?aL ?xC ?iC ?lI ?cI ?lc ?hv ?hfile ?lcell ?tC ?sa ?noN ?kC ?exC ?tyC ?any ?su ?top ?ga ?gg ?hd ?xL ?kL ?exL ?tyL ?ff ?lf ?ll ?c ?t1 ?t2
    (case aC => first | k_is); (case aL => first | k_is)
    (case xC => first | k_is); (case iC => first | k_is); (case lI => first | k_is); (case cI => first | k_is)
    (case lc => first | k_is); (case hv => first | rfl); (case hfile => first | rfl | decide +kernel); (case lcell => first | k_is)
    (case tC => first | k_is); (case sa => first | k_is); (case noN => first | k_is); (case kC => first | k_is); (case exC => first | k_is); (case tyC => first | k_is)
    (case any => first | k_is); (case su => first | k_is); (case top => first | rfl | decide +kernel); (case ga => first | k_is); (case gg => first | k_is); (case hd => first | k_is)
    (case xL => first | k_exc | k_is); (case kL => first | k_is); (case exL => first | k_is); (case tyL => first | k_is)
    (case ff => first | k_is | kernel_rfl); (case lf => first | k_is | kernel_rfl); (case ll => first | k_is | kernel_rfl)
    (case c => first | (unfold He.SaysT; kernel_rfl)); (case t1 => first | kernel_rfl); (case t2 => first | kernel_rfl)
end
