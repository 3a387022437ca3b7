import PyProof.Rows.All
import Wide.All
import OpenK.AllK
import Wide.FinOn
import HandS.ForMost
import HandS.Defaults
import HandS.IsInst
import HandS.TupAny
import HandS.Small
import HandS.Evl
import PyProof.NeKinds
import HandS.Star
import PyProof.DictUpdate
import PyProof.Rows.MatchSeqLen
import PyProof.RulesMatchSeq
import HandS.HeadHook1
import HandS.HeadHook2
import HandS.HeadHook3
import KE.GoesMore
import KE.GoesEnum
import HandS.Iter
import PyProof.EnumMake
import PyProof.Draws
import PyProof.Rows.MinMaxN
import KE.KStateDown
import HandS.WordsExc
import HandS.Head0
import HandS.Head1
import HandS.Head2
import HandS.HeadEnd
import HandS.HeadHook4
import HandS.Walk
import HandS.Style
import HandS.Zip
import HandS.Rev
import HandS.NoneIn
import HandS.Flow
import PyProof.EqKinds
import HandS.Conv
import HandS.Deep
import HandS.Ends
import PySem.Challenge.RW_queuemill_k09_least_by_trying_all
set_option Elab.async false
set_option linter.all false
section
set_option maxRecDepth 100000
set_option maxHeartbeats 1000000
namespace Bq
open PySem PySem.Spec PyProof.Rows L2

/-! ### functions by name -/
/-- the module's name x is a function that keeps the promise sp, at level k -/
def Fn (P : Program) (w : World) (K : PySem.W.Frag) (mg : Str → Option Value) (base : Heap) (CX : CXT) (k : Nat) (x : Str) (ps : List Str) (sp : Sp) : Prop :=
  ∃ f fd, FnOk P w K mg base CX k f fd ps sp ∧ Binds K fd ps [] ∧ mg x = some (.ref f) ∧ PySem.W.keepIn K (.ref f) = true
theorem Fn.mono {P : Program} {w : World} {K : PySem.W.Frag} {mg : Str → Option Value} {base : Heap} {CX : CXT} {j k : Nat} {x : Str} {ps : List Str} {sp : Sp} (F : Fn P w K mg base CX j x ps sp) (h : j ≤ k) : Fn P w K mg base CX k x ps sp := by
  obtain ⟨f, fd, a, b, c, d⟩ := F
  exact ⟨f, fd, a.mono h, b, c, d⟩
theorem rmm {j k : Nat} {A : Around} (hr : Room k A) (h : j ≤ k := by first | decide | omega) : Room j A := hr.mono h
def tFn (sp : Sp) (E : XK) (t : TA) : TE := fun σ H Q => t σ H fun vs H1 => sp vs H1 Q E
section
variable {X : Cx} {CX : CXT} {k : Nat} {x : Str} {ps : List Str} {sp : Sp} {E : XK} {e : Expr} {es : List Expr} {t : TA} {p pos : Pos}
theorem pe_fn (F : Fn X.prog X.w X.K X.mg X.base CX k x ps sp) (hr : Room k X.A) (hg : Gl X x) (hx : Passes CX X E) (ha : PA X (e :: es) t) (hdb : (x == ("__debug__" : Str)) = false := by decide)
    (he : starEach (e :: es) X.env = (false, eval e X.env) :: starEach es X.env := by rfl) (hpl : (backTo pos (starEach es X.env)).any (·.1) = false := by rfl) :
    PE X (.Call (.Name x p) (e :: es) [] pos) (tFn sp E t) := by
  obtain ⟨f, fd, G, b, m, kp⟩ := F
  have h := pe_call (p := p) (pos := pos) (x := x) G hr hg m kp b .nil hx ha hdb he hpl
  have e1 : tCall sp [] E t = tFn sp E t := by
    funext σ H Q
    unfold tCall tFn
    simp only [List.append_nil]
  rw [← e1]
  exact h
end

/-! ### heaps: what a call may change -/
def Up (S : List Addr) (H H' : Hp) : Prop := ∀ b o, H b = some o → b ∉ S → H' b = some o
structure Kt (K : PySem.W.Frag) (H H' : Hp) : Prop where
  t : ∀ a xs, SqT K H a xs → SqT K H' a xs
  f : ∀ a ob u, H a = some (.frz ob u) → H' a = some (.frz ob u)
structure Ch (K : PySem.W.Frag) (S : List Addr) (H H' : Hp) : Prop where
  up : Up S H H'
  kt : Kt K H H'
/-- a list that nobody writes -/
def FzL (K : PySem.W.Frag) (H : Hp) (a : Addr) (xs : List V) : Prop := (∃ o, H a = some (.frz o (.lst xs))) ∨ ∀ H', SqL K H' a xs
section
variable {K : PySem.W.Frag} {S S' : List Addr} {H H1 H2 : Hp} {a p : Addr} {o u : HO} {xs : List V}
theorem Kt.trans (c : Kt K H H1) (d : Kt K H1 H2) : Kt K H H2 := ⟨fun a xs h => d.t a xs (c.t a xs h), fun a ob u h => d.f a ob u (c.f a ob u h)⟩
theorem Ch.refl : Ch K S H H := ⟨fun _ _ h _ => h, fun _ _ h => h, fun _ _ _ h => h⟩
theorem Ch.trans (c : Ch K S H H1) (d : Ch K S H1 H2) : Ch K S H H2 := ⟨fun b o h n => d.up b o (c.up b o h n) n, c.kt.trans d.kt⟩
theorem Ch.mono (c : Ch K S H H1) (h : ∀ a ∈ S, a ∈ S') : Ch K S' H H1 := ⟨fun b o e n => c.up b o e fun z => n (h b z), c.kt⟩
theorem kt_of (h : ∀ b ys, H b = some (.tup ys) → H1 b = some (.tup ys)) (f : ∀ b ob u, H b = some (.frz ob u) → H1 b = some (.frz ob u)) : Kt K H H1 := ⟨fun b ys q => by
  rcases q with (q | ⟨ob, q⟩) | q
  · exact .inl (.inl (h b ys q))
  · exact .inl (.inr ⟨ob, f b ob _ q⟩)
  · exact .inr q, f⟩
theorem Ch.new (n : H p = none) : Ch K S H (upd H p o) := by
  have h : ∀ b u, H b = some u → upd H p o b = some u := fun b u e => by rw [upd_ne (ne_of_none e n)]; exact e
  exact ⟨fun b u e _ => h b u e, kt_of (fun b ys e => h b _ e) fun b ob u e => h b _ e⟩
def notT : HO → Bool
  | .tup _ => false
  | .frz _ _ => false
  | _ => true
theorem Ch.wr (h : H a = some u) (ht : notT u = true) (ha : a ∈ S) : Ch K S H (upd H a o) := by
  refine ⟨fun b v e n => ?_, kt_of (fun b ys e => ?_) fun b ob v e => ?_⟩
  · rw [upd_ne (fun z => n (by rw [z]; exact ha))]; exact e
  · rw [upd_ne (fun z => by rw [z, h] at e; cases e; cases ht)]; exact e
  · rw [upd_ne (fun z => by rw [z, h] at e; cases e; cases ht)]; exact e
theorem Ch.wrL (h : H a = some (.lst xs)) (ha : a ∈ S) : Ch K S H (upd H a o) := Ch.wr h rfl ha
/-- a new thing written again -/
theorem Ch.wrN (c : Ch K S H H1) (n : H a = none) (h : H1 a = some u) (ht : notT u = true) : Ch K S H (upd H1 a o) := by
  have w : Ch K [a] H1 (upd H1 a o) := Ch.wr h ht (by simp)
  refine ⟨fun b v e m => ?_, c.kt.trans w.kt⟩
  rw [upd_ne (ne_of_none e n)]; exact c.up b v e m
theorem Ch.hide (n : H p = none) (c : Ch K S' (upd H p o) H1) (h : ∀ a ∈ S', a ∈ S ∨ a = p) : Ch K S H H1 := by
  refine ⟨fun b v e m => ?_, (Ch.new (S := S) n).kt.trans c.kt⟩
  have hb := ne_of_none e n
  refine c.up b v (by rw [upd_ne hb]; exact e) fun z => ?_
  rcases h b z with q | q
  · exact m q
  · exact hb q
theorem Ch.sqL (c : Ch K S H H1) (h : SqL K H a xs) (n : a ∉ S) : SqL K H1 a xs := by
  rcases h with (h | ⟨ob, h⟩) | h
  · exact .inl (.inl (c.up _ _ h n))
  · exact .inl (.inr ⟨ob, c.up _ _ h n⟩)
  · exact .inr h
theorem Ch.sqT (c : Ch K S H H1) (h : SqT K H a xs) : SqT K H1 a xs := c.kt.t _ _ h
theorem Ch.free (c : Ch K S H H1) (n : H1 p = none) (hp : p ∉ S) : H p = none := by
  cases q : H p with
  | none => rfl
  | some v => rw [c.up p v q hp] at n; cases n
theorem FzL.kt (k : Kt K H H1) (h : FzL K H a xs) : FzL K H1 a xs := h.imp (fun ⟨o, e⟩ => ⟨o, k.f _ _ _ e⟩) id
theorem FzL.sq (h : FzL K H a xs) : SqL K H a xs := h.elim (fun ⟨o, e⟩ => .inl (.inr ⟨o, e⟩)) fun q => q H
theorem FzL.uw {d : Addr} {ys : List V} (h : FzL K H a xs) (e : H d = some (.lst ys)) : FzL K (upd H d o) a xs := h.kt (Ch.wrL (S := [d]) e (by simp)).kt
theorem FzL.nw {d : Addr} (h : FzL K H a xs) (e : H d = none) : FzL K (upd H d o) a xs := h.kt (Ch.new (S := []) e).kt
theorem FzL.of (hO : Only H) (h : SqL K H a xs) : FzL K H a xs := by
  rcases h with (h | ⟨ob, h⟩) | h
  · rcases hO a with n | ⟨o, ys, e⟩
    · rw [h] at n; cases n
    · rw [h] at e; cases e
  · exact .inl ⟨ob, h⟩
  · exact .inr fun _ => .inr h
end

/-! ### data in tuples -/
inductive T where
  | int (i : Int)
  | str (s : Str)
  | tup (ts : List T)
mutual
inductive Rep (K : PySem.W.Frag) (H : Hp) : V → T → Prop where
  | int (i : Int) : Rep K H (.int i) (.int i)
  | str (s : Str) : Rep K H (.str s) (.str s)
  | tup {a : Addr} {vs : List V} {ts : List T} (h : SqT K H a vs) (r : Reps K H vs ts) : Rep K H (.ref a) (.tup ts)
inductive Reps (K : PySem.W.Frag) (H : Hp) : List V → List T → Prop where
  | nil : Reps K H [] []
  | cons {v : V} {t : T} {vs : List V} {ts : List T} (h : Rep K H v t) (r : Reps K H vs ts) : Reps K H (v :: vs) (t :: ts)
end
section
variable {K : PySem.W.Frag} {H H1 : Hp}
mutual
theorem Rep.kt (k : Kt K H H1) : ∀ {v : V} {t : T}, Rep K H v t → Rep K H1 v t
  | _, _, .int i => .int i
  | _, _, .str s => .str s
  | _, _, .tup h r => .tup (k.t _ _ h) (Reps.kt k r)
theorem Reps.kt (k : Kt K H H1) : ∀ {vs : List V} {ts : List T}, Reps K H vs ts → Reps K H1 vs ts
  | _, _, .nil => .nil
  | _, _, .cons h r => .cons (Rep.kt k h) (Reps.kt k r)
end
theorem Reps.len : ∀ {vs : List V} {ts : List T}, Reps K H vs ts → vs.length = ts.length
  | _, _, .nil => rfl
  | _, _, .cons _ r => congrArg Nat.succ r.len
theorem Reps.get : ∀ {vs : List V} {ts : List T} {i : Nat} {v : V}, Reps K H vs ts → vs[i]? = some v → ∃ t, ts[i]? = some t ∧ Rep K H v t
  | _, _, _, _, .nil, e => by simp at e
  | _, _, 0, v, .cons h _, e => by simp at e; subst e; exact ⟨_, rfl, h⟩
  | _, _, i + 1, v, .cons _ r, e => by
    obtain ⟨t, h1, h2⟩ := Reps.get (i := i) (v := v) r (by simpa using e)
    exact ⟨t, by simpa using h1, h2⟩
theorem Reps.getT : ∀ {vs : List V} {ts : List T} {i : Nat} {t : T}, Reps K H vs ts → ts[i]? = some t → ∃ v, vs[i]? = some v ∧ Rep K H v t
  | _, _, _, _, .nil, e => by simp at e
  | _, _, 0, t, .cons h _, e => by simp at e; subst e; exact ⟨_, rfl, h⟩
  | _, _, i + 1, t, .cons _ r, e => by
    obtain ⟨v, h1, h2⟩ := Reps.getT (i := i) (t := t) r (by simpa using e)
    exact ⟨v, by simpa using h1, h2⟩
theorem Reps.append : ∀ {vs us : List V} {ts ss : List T}, Reps K H vs ts → Reps K H us ss → Reps K H (vs ++ us) (ts ++ ss)
  | _, _, _, _, .nil, q => q
  | _, _, _, _, .cons h r, q => .cons h (Reps.append r q)
theorem Reps.drop : ∀ {vs : List V} {ts : List T} (n : Nat), Reps K H vs ts → Reps K H (vs.drop n) (ts.drop n)
  | _, _, 0, r => r
  | _, _, _ + 1, .nil => .nil
  | _, _, n + 1, .cons _ r => Reps.drop n r
theorem Reps.take : ∀ {vs : List V} {ts : List T} (n : Nat), Reps K H vs ts → Reps K H (vs.take n) (ts.take n)
  | _, _, 0, _ => .nil
  | _, _, _ + 1, .nil => .nil
  | _, _, n + 1, .cons h r => .cons h (Reps.take n r)
theorem Rep.tupI {v : V} {ts : List T} (r : Rep K H v (.tup ts)) : ∃ a vs, v = .ref a ∧ SqT K H a vs ∧ Reps K H vs ts := by
  cases r with
  | tup h q => exact ⟨_, _, rfl, h, q⟩
theorem Rep.intI {v : V} {i : Int} (r : Rep K H v (.int i)) : v = .int i := by cases r; rfl
theorem Rep.strI {v : V} {i : Str} (r : Rep K H v (.str i)) : v = .str i := by cases r; rfl
theorem Reps.nilI {vs : List V} (r : Reps K H vs []) : vs = [] := by cases r; rfl
theorem Reps.consI {vs : List V} {t : T} {ts : List T} (r : Reps K H vs (t :: ts)) : ∃ v us, vs = v :: us ∧ Rep K H v t ∧ Reps K H us ts := by
  cases r with
  | cons h q => exact ⟨_, _, rfl, h, q⟩
end

/-! ### readings, step by step -/
section
variable {K : PySem.W.Frag} {σ : L2.St} {H : Hp} {D : Ends} {Q : VK} {QB : Bool → Hp → Prop} {QL : List V → Hp → Prop} {te ta tb : TE} {t1 t2 ts tu : TS} {c u : TT} {tl tr : TA} {x y v : V} {p : Addr} {xs : List V} {i j : Int} {n : Nat} {b : Bool}
theorem g_seq (h : t1 { D with nx := t2 D } σ H) : tSeq t1 t2 D σ H := h
theorem g_asg (h : te σ H fun x H1 => D.nx (σ.set n (some x)) H1) : tAsg te (gName n) D σ H := h
theorem g_asgG {g : TG} (h : te σ H fun x H1 => g x σ H1 D.nx) : tAsg te g D σ H := h
theorem g_name {R : L2.St → Hp → Prop} (h : R (σ.set n (some v)) H) : gName n v σ H R := h
theorem g_sub {t : TSet} {R : L2.St → Hp → Prop} (h : ta σ H fun o H1 => tb σ H1 fun i H2 => t o i v H2 fun H3 => R σ H3) : gSub ta tb t v σ H R := h
theorem g_drop (h : te σ H fun _ H1 => D.nx σ H1) : tDrop te D σ H := h
theorem g_ret (h : te σ H D.rt) : tRet te D σ H := h
theorem g_retN (h : D.rt .non H) : tRetN D σ H := h
theorem g_next (h : D.nx σ H) : tNext D σ H := h
theorem g_ifS (h : c σ H fun b H1 => if b = true then t1 D σ H1 else t2 D σ H1) : tIfS c t1 t2 D σ H := h
theorem g_var (e : σ[n]? = some (some v)) (h : Q v H) : tVar n σ H Q := ⟨v, e, h⟩
theorem g_c (h : Q v H) : tC v σ H Q := h
theorem g_op {r : R2} (h : ta σ H fun x H1 => tb σ H1 fun y H2 => r x y H2 Q) : tOp r ta tb σ H Q := h
theorem g_un {r : V → Hp → VK → Prop} (h : ta σ H fun x H1 => r x H1 Q) : tUn r ta σ H Q := h
theorem g_I0 {g : Int → Int → V} (h : Q (g i j) H) : rI0 g (.int i) (.int j) H Q := ⟨i, j, rfl, rfl, h⟩
theorem g_I {C : Int → Int → Prop} {g : Int → Int → V} (hc : C i j) (h : Q (g i j) H) : rI C g (.int i) (.int j) H Q := ⟨i, j, rfl, rfl, hc, h⟩
theorem g_U {g : Int → V} (h : Q (g i) H) : rU g (.int i) H Q := ⟨i, rfl, h⟩
theorem g_eq (hs : scal x y = true) (h : Q (.bl (decide (x = y))) H) : rEq x y H Q := ⟨hs, h⟩
theorem g_ne (hs : scal x y = true) (h : Q (.bl (!decide (x = y))) H) : rNe x y H Q := ⟨hs, h⟩
theorem g_test (h : te σ H fun x H' => ∃ k, x = .bl k ∧ QB k H') : tTest te σ H QB := h
theorem g_tB (h : te σ H fun x H' => ∃ k, x = .bl k ∧ QB k H') : tB te σ H QB := h
theorem g_bl (h : QB b H) : ∃ k, V.bl b = .bl k ∧ QB k H := ⟨b, rfl, h⟩
theorem g_and (h : c σ H fun b H1 => if b = true then u σ H1 QB else QB false H1) : tAnd c u σ H QB := h
theorem g_or (h : c σ H fun b H1 => if b = true then QB true H1 else u σ H1 QB) : tOr c u σ H QB := h
theorem g_andP {a b : Bool} (h1 : ∀ R : Bool → Hp → Prop, R a H → c σ H R) (h2 : ∀ R : Bool → Hp → Prop, R b H → u σ H R) (k : QB (a && b) H) : tAnd c u σ H QB := by
  refine h1 _ ?_
  cases a with
  | true => rw [if_pos rfl]; exact h2 _ k
  | false => rw [if_neg Bool.false_ne_true]; exact k
theorem g_orP {a b : Bool} (h1 : ∀ R : Bool → Hp → Prop, R a H → c σ H R) (h2 : ∀ R : Bool → Hp → Prop, R b H → u σ H R) (k : QB (a || b) H) : tOr c u σ H QB := by
  refine h1 _ ?_
  cases a with
  | true => rw [if_pos rfl]; exact k
  | false => rw [if_neg Bool.false_ne_true]; exact h2 _ k
theorem g_cut {Mid : L2.St → Hp → Prop} (h : t1 { D with nx := Mid } σ H) (k : ∀ σ' H', Mid σ' H' → t2 D σ' H') : Evl.tCut t1 t2 D σ H := ⟨Mid, h, k⟩
theorem g_not (h : c σ H fun b H1 => QB (!b) H1) : tNot c σ H QB := h
theorem g_andV (h : ta σ H fun x H1 => ∃ c, x = .bl c ∧ if c = true then tb σ H1 Q else Q (.bl false) H1) : tAndV ta tb σ H Q := h
theorem g_orV (h : ta σ H fun x H1 => ∃ c, x = .bl c ∧ if c = true then Q (.bl true) H1 else tb σ H1 Q) : tOrV ta tb σ H Q := h
theorem g_notV (h : ta σ H fun x H1 => ∃ c, x = .bl c ∧ Q (.bl (!c)) H1) : tNotV ta σ H Q := h
theorem g_if (h : c σ H fun b H1 => if b = true then ta σ H1 Q else tb σ H1 Q) : tIf c ta tb σ H Q := h
theorem g_nil (h : QL [] H) : tNil σ H QL := h
theorem g_cons (h : ta σ H fun x H1 => tr σ H1 fun xs H2 => QL (x :: xs) H2) : tCons ta tr σ H QL := h
theorem g_tup (h : tl σ H fun xs H1 => xs.length ≤ sizeLine ∧ ∀ p, H1 p = none → Q (.ref p) (upd H1 p (.tup xs))) : tTup tl σ H Q := h
theorem g_lst (h : tl σ H fun xs H1 => xs.length ≤ sizeLine ∧ ∀ p, H1 p = none → Q (.ref p) (upd H1 p (.lst xs))) : tLst tl σ H Q := h
theorem g_CB {r : List V → Hp → VK → Prop} (h : tl σ H fun vs H1 => r vs H1 Q) : tCB r tl σ H Q := h
theorem g_Fn {sp : Sp} {E : XK} (h : tl σ H fun vs H1 => sp vs H1 Q E) : tFn sp E tl σ H Q := h
theorem g_ixL (h : SqL K H p xs) (e : atI xs i = some v) (q : Q v H) : rIxL K (.ref p) (.int i) H Q := ⟨p, xs, i, v, rfl, rfl, h, e, q⟩
theorem g_ixT (h : SqT K H p xs) (e : atI xs i = some v) (q : Q v H) : rIxT K (.ref p) (.int i) H Q := ⟨p, xs, i, v, rfl, rfl, h, e, q⟩
theorem g_setL {R : Hp → Prop} (h : H p = some (.lst xs)) (e : ixN xs.length i = some n) (q : R (upd H p (.lst (xs.set n v)))) : rSetL (.ref p) (.int i) v H R := ⟨p, xs, i, n, rfl, rfl, h, e, q⟩
theorem g_app (h : H p = some (.lst xs)) (hz : xs.length < sizeLine) (q : Q .non (upd H p (.lst (xs ++ [v])))) : rAppend (.ref p) [v] H Q := ⟨p, xs, v, rfl, rfl, h, hz, q⟩
theorem g_dg (h : ta σ H fun x H1 => tb σ H1 fun y H2 => ∃ a v, x = .ref a ∧ DGet H2 a y (some v) ∧ Q v H2) : tDGet ta tb σ H Q := h
theorem iteB {A B : Prop} (h1 : b = true → A) (h2 : b = false → B) : if b = true then A else B := by
  cases b with
  | true => rw [if_pos rfl]; exact h1 rfl
  | false => rw [if_neg Bool.false_ne_true]; exact h2 rfl
end
end Bq
end

section
set_option maxRecDepth 100000
set_option maxHeartbeats 1000000
namespace Bq
open PySem PySem.Spec PyProof.Rows L2
theorem pe_bty {X : Cx} {x : Str} {pos : Pos} (n : String) (hg : Gl X x) (hm : X.mg x = none) (hv : bootBuiltins x = some (.type n)) (hn : x ≠ "__name__" := by decide) (hd : (x == ("__debug__" : Str)) = false := by decide) : PE X (.Name x pos) (tC (.ty n)) :=
  pe_bltn (v := .ty n) hg hm hv rfl hn hd
/-! ### a list against [] -/
def rEqNil (K : PySem.W.Frag) : R2 := fun x y H Q => ∃ p q xs, x = .ref p ∧ y = .ref q ∧ SqL K H p xs ∧ SqL K H q [] ∧ Q (.bl xs.isEmpty) H
def rNeNil (K : PySem.W.Frag) : R2 := fun x y H Q => ∃ p q xs, x = .ref p ∧ y = .ref q ∧ SqL K H p xs ∧ SqL K H q [] ∧ Q (.bl (!xs.isEmpty)) H
section
variable {X : Cx}
theorem op_eqNil (hu : X.A.units < cLine) : OpR X (compareOp .Eq) (rEqNil X.K) := by
  intro pins s σ H x y v u Q I rx ry h
  obtain ⟨p, q, xs, rfl, rfl, hp, hq, k⟩ := h
  cases rx
  cases ry
  obtain ⟨its, rv, pl, _⟩ := I.list hp
  obtain ⟨its2, rv2, pl2, _⟩ := I.list hq
  cases rv2
  cases rv with
  | nil => exact PySem.SeqAt.eq_listAt (e := fun _ => true) pl.isList pl2.isList rfl hu (fun j h1 => by simp at h1) ⟨.bl true, H, I, rfl, k⟩
  | cons r t => exact PySem.SeqAt.eq_list_lengthsAt pl.isList pl2.isList (by simp) hu ⟨.bl false, H, I, rfl, k⟩
theorem op_neNil (hu : X.A.units < cLine) : OpR X (compareOp .NotEq) (rNeNil X.K) := by
  intro pins s σ H x y v u Q I rx ry h
  obtain ⟨p, q, xs, rfl, rfl, hp, hq, k⟩ := h
  cases rx
  cases ry
  obtain ⟨its, rv, pl, _⟩ := I.list hp
  obtain ⟨its2, rv2, pl2, _⟩ := I.list hq
  cases rv2
  cases rv with
  | nil => exact PySem.SeqAt.RcNeAt.lists (e := fun _ => true) pl.isList pl2.isList rfl hu (fun j h1 => by simp at h1) X.prog X.w _ _ ⟨.bl false, H, I, rfl, k⟩
  | cons r t => exact PySem.SeqAt.RcNeAt.lists_lengths pl.isList pl2.isList (by simp) hu X.prog X.w _ _ ⟨.bl true, H, I, rfl, k⟩
end
section
variable {K : PySem.W.Frag} {H : Hp} {Q : VK} {p q : Addr} {xs : List V}
theorem g_eqNil (h : SqL K H p xs) (h2 : SqL K H q []) (k : Q (.bl xs.isEmpty) H) : rEqNil K (.ref p) (.ref q) H Q := ⟨p, q, xs, rfl, rfl, h, h2, k⟩
theorem g_neNil (h : SqL K H p xs) (h2 : SqL K H q []) (k : Q (.bl (!xs.isEmpty)) H) : rNeNil K (.ref p) (.ref q) H Q := ⟨p, q, xs, rfl, rfl, h, h2, k⟩
end

/-! ### a word between a test (an expression) and what follows -/
def tMid (t : TT) : TT := fun σ H Q => ∃ R : Bool → Hp → Prop, t σ H R ∧ ∀ b H', R b H' → Q b H'
def tMidE (t : TE) : TE := fun σ H Q => ∃ R : VK, t σ H R ∧ ∀ b H', R b H' → Q b H'
theorem pt_mid {X : Cx} {e : Expr} {t : TT} (h : PT X e t) : PT X e (tMid t) := by
  refine ⟨fun pins s σ H Q I hw => ?_⟩
  obtain ⟨R, h1, h2⟩ := hw
  exact thn (h.run pins s σ H R I h1) fun b s' ⟨H', I', q⟩ => ⟨H', I', h2 b H' q⟩
theorem pe_mid {X : Cx} {e : Expr} {t : TE} (h : PE X e t) : PE X e (tMidE t) := by
  refine ⟨fun pins s σ H Q I hw => ?_⟩
  obtain ⟨R, h1, h2⟩ := hw
  exact thn (h.run pins s σ H R I h1) fun b s' ⟨v, H', I', r, q⟩ => ⟨v, H', I', r, h2 v H' q⟩
theorem g_mid {t : TT} {σ : L2.St} {H : Hp} {Q : Bool → Hp → Prop} (R : Bool → Hp → Prop) (h : t σ H R) (k : ∀ b H', R b H' → Q b H') : tMid t σ H Q := ⟨R, h, k⟩
theorem g_midE {t : TE} {σ : L2.St} {H : Hp} {Q : VK} (R : VK) (h : t σ H R) (k : ∀ b H', R b H' → Q b H') : tMidE t σ H Q := ⟨R, h, k⟩

/-! ### comprehensions without a test, the target a name -/
theorem wipe1 {σ : L2.St} {k : Nat} {x : Option V} : wipe ((wipe σ [k]).set k x) [k] = wipe σ [k] := by
  show ((σ.set k none).set k x).set k none = σ.set k none
  rw [List.set_set, List.set_set]
theorem g_lc {wi : TI} {g : TG} {tt : TT} {te : TE} {vs : List Nat} {σ : L2.St} {H : Hp} {Q : VK} (h : wi σ H fun J H1 => ∀ D, H1 D = none → ∃ W : Nat → Nat → Hp → Prop, (∃ m, W 0 m (upd H1 D (.lst []))) ∧ ∀ i m H, W i m H →
  (J.stop i H ∧ Q (.ref D) H) ∨ (J.go i H ∧ ∃ Nx : Hp → Prop, (∀ H', Nx H' → ∃ m', m' < m ∧ W (i + 1) m' H') ∧ ∀ x H', J.yld i H x H' → g x (wipe σ vs) H' fun σ2 H2 => wipe σ2 vs = wipe σ vs ∧ tt σ2 H2 fun b H3 =>
    if b = true then te σ2 H3 fun y H4 => ∃ acc, H4 D = some (.lst acc) ∧ acc.length < sizeLine ∧ Nx (upd H4 D (.lst (acc ++ [y]))) else Nx H3)) : tLc wi g tt te vs σ H Q := h
theorem g_rng1 {ta : TA} {σ : L2.St} {H : Hp} {R : It → Hp → Prop} (h : ta σ H fun vs H1 => ∃ j : Int, vs = [.int j] ∧ -(2 ^ 62) ≤ j ∧ j < 2 ^ 62 ∧ R (Itr 0 j.toNat) H1) : iRng1 ta σ H R := h
theorem g_ilist {K : PySem.W.Frag} {tl : TE} {σ : L2.St} {H : Hp} {R : It → Hp → Prop} (h : tl σ H fun x H1 => ∃ a, x = .ref a ∧ (∃ xs, SqL K H1 a xs) ∧ R (Itl K a) H1) : iList K tl σ H R := h
theorem g_itup {K : PySem.W.Frag} {tl : TE} {σ : L2.St} {H : Hp} {R : It → Hp → Prop} (h : tl σ H fun x H1 => ∃ a, x = .ref a ∧ (∃ xs, SqT K H1 a xs) ∧ R (Itt K a) H1) : iTup K tl σ H R := h
theorem lcR1 {n k : Nat} {te : TE} {σ : L2.St} {H1 : Hp} {D : Addr} {Qd : Hp → Prop} (Pv : Nat → Hp → Prop) (h0 : Pv 0 (upd H1 D (.lst [])))
    (hs : ∀ (i : Nat) H, i < n → Pv i H → te ((wipe σ [k]).set k (some (.int (i : Nat)))) H fun y H4 => ∃ acc, H4 D = some (.lst acc) ∧ acc.length < sizeLine ∧ Pv (i + 1) (upd H4 D (.lst (acc ++ [y])))) (hd : ∀ H, Pv n H → Qd H) :
    ∃ W : Nat → Nat → Hp → Prop, (∃ m, W 0 m (upd H1 D (.lst []))) ∧ ∀ i m H, W i m H →
      ((Itr 0 n).stop i H ∧ Qd H) ∨ ((Itr 0 n).go i H ∧ ∃ Nx : Hp → Prop, (∀ H', Nx H' → ∃ m', m' < m ∧ W (i + 1) m' H') ∧ ∀ x H', (Itr 0 n).yld i H x H' → gName k x (wipe σ [k]) H' fun σ2 H2 => wipe σ2 [k] = wipe σ [k] ∧ tYes σ2 H2 fun b H3 =>
        if b = true then te σ2 H3 fun y H4 => ∃ acc, H4 D = some (.lst acc) ∧ acc.length < sizeLine ∧ Nx (upd H4 D (.lst (acc ++ [y]))) else Nx H3) :=
  lc_range (lo := 0) (n := n) (g := gName k) (tt := tYes) (vs := [k]) Pv h0 (fun i H hi p => by
    refine ⟨wipe1, ?_⟩
    simp only [tYes, Int.zero_add, ↓reduceIte]
    exact hs i H hi p) hd
theorem lcT1 {K : PySem.W.Frag} {a : Addr} {xs : List V} {k : Nat} {te : TE} {σ : L2.St} {H1 : Hp} {D : Addr} {Qd : Hp → Prop} (Pv : Nat → Hp → Prop) (h0 : Pv 0 (upd H1 D (.lst []))) (hl : ∀ i H, i ≤ xs.length → Pv i H → SqT K H a xs)
    (hs : ∀ (i : Nat) x H, xs[i]? = some x → Pv i H → te ((wipe σ [k]).set k (some x)) H fun y H4 => ∃ acc, H4 D = some (.lst acc) ∧ acc.length < sizeLine ∧ Pv (i + 1) (upd H4 D (.lst (acc ++ [y])))) (hd : ∀ H, Pv xs.length H → Qd H) :
    ∃ W : Nat → Nat → Hp → Prop, (∃ m, W 0 m (upd H1 D (.lst []))) ∧ ∀ i m H, W i m H →
      ((Itt K a).stop i H ∧ Qd H) ∨ ((Itt K a).go i H ∧ ∃ Nx : Hp → Prop, (∀ H', Nx H' → ∃ m', m' < m ∧ W (i + 1) m' H') ∧ ∀ x H', (Itt K a).yld i H x H' → gName k x (wipe σ [k]) H' fun σ2 H2 => wipe σ2 [k] = wipe σ [k] ∧ tYes σ2 H2 fun b H3 =>
        if b = true then te σ2 H3 fun y H4 => ∃ acc, H4 D = some (.lst acc) ∧ acc.length < sizeLine ∧ Nx (upd H4 D (.lst (acc ++ [y]))) else Nx H3) :=
  lc_tup (xs := xs) (g := gName k) (tt := tYes) (vs := [k]) Pv h0 hl (fun i x H hi p => by
    refine ⟨wipe1, ?_⟩
    simp only [tYes, ↓reduceIte]
    exact hs i x H hi p) hd
theorem lcL1 {K : PySem.W.Frag} {a : Addr} {xs : List V} {k : Nat} {te : TE} {σ : L2.St} {H1 : Hp} {D : Addr} {Qd : Hp → Prop} (Pv : Nat → Hp → Prop) (h0 : Pv 0 (upd H1 D (.lst []))) (hl : ∀ i H, i ≤ xs.length → Pv i H → SqL K H a xs)
    (hs : ∀ (i : Nat) x H, xs[i]? = some x → Pv i H → te ((wipe σ [k]).set k (some x)) H fun y H4 => ∃ acc, H4 D = some (.lst acc) ∧ acc.length < sizeLine ∧ Pv (i + 1) (upd H4 D (.lst (acc ++ [y])))) (hd : ∀ H, Pv xs.length H → Qd H) :
    ∃ W : Nat → Nat → Hp → Prop, (∃ m, W 0 m (upd H1 D (.lst []))) ∧ ∀ i m H, W i m H →
      ((Itl K a).stop i H ∧ Qd H) ∨ ((Itl K a).go i H ∧ ∃ Nx : Hp → Prop, (∀ H', Nx H' → ∃ m', m' < m ∧ W (i + 1) m' H') ∧ ∀ x H', (Itl K a).yld i H x H' → gName k x (wipe σ [k]) H' fun σ2 H2 => wipe σ2 [k] = wipe σ [k] ∧ tYes σ2 H2 fun b H3 =>
        if b = true then te σ2 H3 fun y H4 => ∃ acc, H4 D = some (.lst acc) ∧ acc.length < sizeLine ∧ Nx (upd H4 D (.lst (acc ++ [y]))) else Nx H3) :=
  lc_list (xs := xs) (g := gName k) (tt := tYes) (vs := [k]) Pv h0 hl (fun i x H hi p => by
    refine ⟨wipe1, ?_⟩
    simp only [tYes, ↓reduceIte]
    exact hs i x H hi p) hd
/-! ### for -/
theorem g_for {wi : TI} {g : TG} {tb : TS} {D : Ends} {σ : L2.St} {H : Hp} (h : wi σ H fun J H1 => ∃ W : Nat → Nat → L2.St → Hp → Prop, (∃ m, W 0 m σ H1) ∧ ∀ i m σ H, W i m σ H →
  (J.stop i H ∧ D.nx σ H) ∨ (J.go i H ∧ ∃ N : L2.St → Hp → Prop, (∀ σ' H', N σ' H' → ∃ m', m' < m ∧ W (i + 1) m' σ' H') ∧ ∀ x H', J.yld i H x H' → g x σ H' fun σ2 H2 => tb { D with nx := N, ct := N, bk := D.nx } σ2 H2)) : tFor wi g tb D σ H := h
theorem for_rng {n k : Nat} {tb : TS} {D : Ends} {σ : L2.St} {H : Hp} (Pv : Nat → L2.St → Hp → Prop) (h0 : Pv 0 σ H)
    (hs : ∀ (i : Nat) σ H, i < n → Pv i σ H → tb { D with nx := Pv (i + 1), ct := Pv (i + 1), bk := D.nx } (σ.set k (some (.int (i : Nat)))) H) (hd : ∀ σ H, Pv n σ H → D.nx σ H) :
    ∃ W : Nat → Nat → L2.St → Hp → Prop, (∃ m, W 0 m σ H) ∧ ∀ i m σ H, W i m σ H →
      ((Itr 0 n).stop i H ∧ D.nx σ H) ∨ ((Itr 0 n).go i H ∧ ∃ N : L2.St → Hp → Prop, (∀ σ' H', N σ' H' → ∃ m', m' < m ∧ W (i + 1) m' σ' H') ∧ ∀ x H', (Itr 0 n).yld i H x H' → gName k x σ H' fun σ2 H2 => tb { D with nx := N, ct := N, bk := D.nx } σ2 H2) :=
  for_range (lo := 0) (n := n) (g := gName k) Pv h0 (fun i σ H hi p => by
    have h := hs i σ H hi p
    rw [← Int.zero_add ((i : Nat) : Int)] at h
    exact h) hd
/-! ### the language: parts and deeds -/
inductive Op where
  | add | take | times | over | rest | less | same
  deriving DecidableEq
def Op.str : Op → Str
  | .add => "add" | .take => "take" | .times => "times" | .over => "over" | .rest => "rest" | .less => "less" | .same => "same"
inductive Pt where
  | num (n : Int)
  | name (i : Nat)
  | bin (op : Op) (a b : Pt)
  | nt (a : Pt)
  | get (a : Pt)
  | call (f : Nat) (ps : List Pt)
inductive Dd where
  | set (i : Nat) (p : Pt)
  | put (c p : Pt)
  | say (p : Pt)
  | ite (p : Pt) (a b : List Dd)
  | whl (p : Pt) (b : List Dd)
  | ret (p : Pt)
  | dop (p : Pt)
mutual
def encP : Pt → T
  | .num n => .tup [.str "num", .int n]
  | .name i => .tup [.str "name", .int i]
  | .bin op a b => .tup [.str op.str, encP a, encP b]
  | .nt a => .tup [.str "not", encP a]
  | .get a => .tup [.str "get", encP a]
  | .call f ps => .tup [.str "call", .int f, .tup (encPs ps)]
def encPs : List Pt → List T
  | [] => []
  | p :: r => encP p :: encPs r
end
mutual
def encDd : Dd → T
  | .set i p => .tup [.str "set", .int i, encP p]
  | .put c p => .tup [.str "put", encP c, encP p]
  | .say p => .tup [.str "say", encP p]
  | .ite p a b => .tup [.str "if", encP p, .tup (encB a), .tup (encB b)]
  | .whl p b => .tup [.str "while", encP p, .tup (encB b)]
  | .ret p => .tup [.str "return", encP p]
  | .dop p => .tup [.str "do", encP p]
def encB : List Dd → List T
  | [] => []
  | d :: r => encDd d :: encB r
end
/-- a fun: how many worths it is handed, how many names it has, its body -/
structure Fu where
  ps : Nat
  nm : Nat
  body : List Dd
def encF (f : Fu) : T := .tup [.int f.ps, .int f.nm, .tup (encB f.body)]
mutual
/-- how many parts -/
def szP : Pt → Nat
  | .num _ => 1
  | .name _ => 1
  | .bin _ a b => 1 + szP a + szP b
  | .nt a => 1 + szP a
  | .get a => 1 + szP a
  | .call _ ps => 1 + szPs ps
def szPs : List Pt → Nat
  | [] => 0
  | p :: r => szP p + szPs r
end
mutual
/-- how many deeds and parts -/
def szD : Dd → Nat
  | .set _ p => 1 + szP p
  | .put c p => 1 + szP c + szP p
  | .say p => 1 + szP p
  | .ite p a b => 1 + szP p + szB a + szB b
  | .whl p b => 1 + szP p + szB b
  | .ret p => 1 + szP p
  | .dop p => 1 + szP p
def szB : List Dd → Nat
  | [] => 0
  | d :: r => szD d + szB r
end
mutual
/-- a part that can be: nm names, funs of so many params -/
def wfP (nm : Nat) (ps : List Nat) : Pt → Prop
  | .num n => -1000000 ≤ n ∧ n ≤ 1000000
  | .name i => i < nm
  | .bin _ a b => wfP nm ps a ∧ wfP nm ps b
  | .nt a => wfP nm ps a
  | .get a => wfP nm ps a
  | .call f qs => ps[f]? = some qs.length ∧ wfPs nm ps qs
def wfPs (nm : Nat) (ps : List Nat) : List Pt → Prop
  | [] => True
  | p :: r => wfP nm ps p ∧ wfPs nm ps r
end
mutual
/-- a deed that can be: at most dp deeds around what is within -/
def wfD (nm : Nat) (ps : List Nat) : Nat → Dd → Prop
  | _, .set i p => i < nm ∧ wfP nm ps p ∧ szP p ≤ 40
  | _, .put c p => wfP nm ps c ∧ wfP nm ps p ∧ szP c + szP p ≤ 40
  | _, .say p => wfP nm ps p ∧ szP p ≤ 40
  | dp, .ite p a b => wfP nm ps p ∧ szP p ≤ 40 ∧ wfBs nm ps dp a ∧ wfBs nm ps dp b
  | dp, .whl p b => wfP nm ps p ∧ szP p ≤ 40 ∧ wfBs nm ps dp b
  | _, .ret p => wfP nm ps p ∧ szP p ≤ 40
  | _, .dop p => wfP nm ps p ∧ szP p ≤ 40
/-- a body within a deed: empty, or one level less left -/
def wfBs (nm : Nat) (ps : List Nat) : Nat → List Dd → Prop
  | _, [] => True
  | 0, _ :: _ => False
  | dp + 1, d :: r => wfD nm ps dp d ∧ wfBs nm ps (dp + 1) r
end
mutual
theorem wfP_mono {n m : Nat} (h : n ≤ m) {ps : List Nat} : ∀ {p : Pt}, wfP n ps p → wfP m ps p
  | .num _, q => q
  | .name i, q => Nat.lt_of_lt_of_le (show i < n from q) h
  | .bin _ a b, q => ⟨wfP_mono h q.1, wfP_mono h q.2⟩
  | .nt a, q => wfP_mono (p := a) h q
  | .get a, q => wfP_mono (p := a) h q
  | .call f qs, q => ⟨q.1, wfPs_mono h q.2⟩
theorem wfPs_mono {n m : Nat} (h : n ≤ m) {ps : List Nat} : ∀ {qs : List Pt}, wfPs n ps qs → wfPs m ps qs
  | [], q => q
  | p :: r, q => ⟨wfP_mono h q.1, wfPs_mono h q.2⟩
end
mutual
/-- how many deeds and parts a thing is told to hold: tuples that begin with a text -/
def thT : T → Nat
  | .int _ => 0
  | .str _ => 0
  | .tup ts => ownT ts + thTs ts
def thTs : List T → Nat
  | [] => 0
  | t :: r => thT t + thTs r
def ownT : List T → Nat
  | .str _ :: _ => 1
  | _ => 0
end
theorem ownT_str {s : Str} {r : List T} : ownT (.str s :: r) = 1 := rfl
mutual
/-- how deep a thing is -/
def dpT : T → Nat
  | .int _ => 0
  | .str _ => 0
  | .tup ts => 1 + dpTs ts
def dpTs : List T → Nat
  | [] => 0
  | t :: r => max (dpT t) (dpTs r)
end
mutual
def dpP : Pt → Nat
  | .num _ => 1
  | .name _ => 1
  | .bin _ a b => 1 + max (dpP a) (dpP b)
  | .nt a => 1 + dpP a
  | .get a => 1 + dpP a
  | .call _ ps => 1 + dpPs ps
def dpPs : List Pt → Nat
  | [] => 0
  | p :: r => max (dpP p) (dpPs r)
end
mutual
theorem dpP_sz : ∀ p : Pt, dpP p ≤ szP p
  | .num _ => Nat.le_refl 1
  | .name _ => Nat.le_refl 1
  | .bin _ a b => by have := dpP_sz a; have := dpP_sz b; simp only [dpP, szP]; omega
  | .nt a => by have := dpP_sz a; simp only [dpP, szP]; omega
  | .get a => by have := dpP_sz a; simp only [dpP, szP]; omega
  | .call _ ps => by have := dpPs_sz ps; simp only [dpP, szP]; omega
theorem dpPs_sz : ∀ ps : List Pt, dpPs ps ≤ szPs ps
  | [] => Nat.le_refl 0
  | p :: r => by have := dpP_sz p; have := dpPs_sz r; simp only [dpPs, szPs]; omega
end
mutual
theorem dpT_P : ∀ p : Pt, dpT (encP p) ≤ 2 * dpP p
  | .num _ => by simp [encP, dpT, dpTs, dpP]
  | .name _ => by simp [encP, dpT, dpTs, dpP]
  | .bin _ a b => by have := dpT_P a; have := dpT_P b; simp only [encP, dpT, dpTs, dpP]; omega
  | .nt a => by have := dpT_P a; simp only [encP, dpT, dpTs, dpP]; omega
  | .get a => by have := dpT_P a; simp only [encP, dpT, dpTs, dpP]; omega
  | .call _ ps => by have := dpT_Ps ps; simp only [encP, dpT, dpTs, dpP]; omega
theorem dpT_Ps : ∀ ps : List Pt, dpTs (encPs ps) ≤ 2 * dpPs ps
  | [] => Nat.le_refl 0
  | p :: r => by have := dpT_P p; have := dpT_Ps r; simp only [encPs, dpTs, dpPs]; omega
end
theorem ownT_Ps : ∀ ps : List Pt, ownT (encPs ps) = 0
  | [] => rfl
  | .num _ :: r => rfl
  | .name _ :: r => rfl
  | .bin _ _ _ :: r => rfl
  | .nt _ :: r => rfl
  | .get _ :: r => rfl
  | .call _ _ :: r => rfl
mutual
theorem thT_P : ∀ p : Pt, thT (encP p) = szP p
  | .num _ => rfl
  | .name _ => rfl
  | .bin _ a b => by have := thT_P a; have := thT_P b; simp only [encP, thT, thTs, szP, ownT_str]; omega
  | .nt a => by have := thT_P a; simp only [encP, thT, thTs, szP, ownT_str]; omega
  | .get a => by have := thT_P a; simp only [encP, thT, thTs, szP, ownT_str]; omega
  | .call _ ps => by have := thT_Ps ps; have := ownT_Ps ps; simp only [encP, thT, thTs, szP, ownT_str]; omega
theorem thT_Ps : ∀ ps : List Pt, thTs (encPs ps) = szPs ps
  | [] => rfl
  | p :: r => by have := thT_P p; have := thT_Ps r; simp only [encPs, thTs, szPs]; omega
end
theorem ownT_B : ∀ b : List Dd, ownT (encB b) = 0
  | [] => rfl
  | .set _ _ :: r => rfl
  | .put _ _ :: r => rfl
  | .say _ :: r => rfl
  | .ite _ _ _ :: r => rfl
  | .whl _ _ :: r => rfl
  | .ret _ :: r => rfl
  | .dop _ :: r => rfl
mutual
theorem thT_D : ∀ d : Dd, thT (encDd d) = szD d
  | .set _ p => by have := thT_P p; simp only [encDd, thT, thTs, szD, ownT_str]; omega
  | .put c p => by have := thT_P c; have := thT_P p; simp only [encDd, thT, thTs, szD, ownT_str]; omega
  | .say p => by have := thT_P p; simp only [encDd, thT, thTs, szD, ownT_str]; omega
  | .ite p a b => by have := thT_P p; have := thT_B a; have := thT_B b; have := ownT_B a; have := ownT_B b; simp only [encDd, thT, thTs, szD, ownT_str]; omega
  | .whl p b => by have := thT_P p; have := thT_B b; have := ownT_B b; simp only [encDd, thT, thTs, szD, ownT_str]; omega
  | .ret p => by have := thT_P p; simp only [encDd, thT, thTs, szD, ownT_str]; omega
  | .dop p => by have := thT_P p; simp only [encDd, thT, thTs, szD, ownT_str]; omega
theorem thT_B : ∀ b : List Dd, thTs (encB b) = szB b
  | [] => rfl
  | d :: r => by have := thT_D d; have := thT_B r; simp only [encB, thTs, szB]; omega
end
mutual
/-- how deep deeds are, of parts of at most 20 -/
theorem dpT_D {nm : Nat} {ps : List Nat} : ∀ {n : Nat} {d : Dd}, wfD nm ps n d → dpT (encDd d) ≤ 2 * n + 81
  | n, .set _ p, h => by have := dpT_P p; have := dpP_sz p; have := h.2.2; simp only [encDd, dpT, dpTs]; omega
  | n, .put c p, h => by have := dpT_P p; have := dpP_sz p; have := dpT_P c; have := dpP_sz c; have := h.2.2; simp only [encDd, dpT, dpTs]; omega
  | n, .say p, h => by have := dpT_P p; have := dpP_sz p; have := h.2; simp only [encDd, dpT, dpTs]; omega
  | n, .ite p a b, h => by have := dpT_P p; have := dpP_sz p; have := h.2.1; have := dpT_B h.2.2.1; have := dpT_B h.2.2.2; simp only [encDd, dpT, dpTs]; omega
  | n, .whl p b, h => by have := dpT_P p; have := dpP_sz p; have := h.2.1; have := dpT_B h.2.2; simp only [encDd, dpT, dpTs]; omega
  | n, .ret p, h => by have := dpT_P p; have := dpP_sz p; have := h.2; simp only [encDd, dpT, dpTs]; omega
  | n, .dop p, h => by have := dpT_P p; have := dpP_sz p; have := h.2; simp only [encDd, dpT, dpTs]; omega
theorem dpT_B {nm : Nat} {ps : List Nat} : ∀ {n : Nat} {b : List Dd}, wfBs nm ps n b → dpTs (encB b) ≤ 2 * n + 79
  | _, [], _ => by simp [encB, dpTs]
  | 0, _ :: _, h => h.elim
  | n + 1, d :: r, h => by have := dpT_D h.1; have := dpT_B h.2; simp only [encB, dpTs]; omega
end
/-! ### tuples made, added -/
section
variable {K : PySem.W.Frag} {H : Hp} {Q : VK} {vs : List V} {ts us : List T} {v1 v2 : V}
theorem catT (r1 : Rep K H v1 (.tup ts)) (r2 : Rep K H v2 (.tup us)) (hl : ts.length + us.length ≤ 1000) (k : ∀ v H', Ch K [] H H' → Rep K H' v (.tup (ts ++ us)) → Q v H') : rCatA K v1 v2 H Q := by
  obtain ⟨a, xs, rfl, hx, rx⟩ := r1.tupI
  obtain ⟨b, ys, rfl, hy, ry⟩ := r2.tupI
  refine ⟨a, b, xs, ys, rfl, rfl, hx, hy, ?_, fun e => ?_, fun e1 e2 => ?_, fun e1 e2 p np => ?_⟩
  · rw [rx.len, ry.len]
    exact Nat.le_trans hl (by decide)
  · refine k _ H Ch.refl ?_
    subst e
    cases rx
    exact r2
  · refine k _ H Ch.refl ?_
    subst e2
    cases ry
    rw [List.append_nil]
    exact r1
  · exact k _ _ (Ch.new np) (.tup (SqT.of upd_same) ((rx.append ry).kt (Ch.new (S := []) np).kt))
/-- t + u, by what they are -/
def rCatR (K : PySem.W.Frag) : R2 := fun x y H Q => ∃ ts us, Rep K H x (.tup ts) ∧ Rep K H y (.tup us) ∧ ts.length + us.length ≤ 1000 ∧ ∀ v H', Ch K [] H H' → Rep K H' v (.tup (ts ++ us)) → Q v H'
theorem op_catR {X : Cx} : OpR X (binaryOp .Add) (rCatR X.K) := by
  intro pins s σ H x y v u Q I rx ry h
  obtain ⟨ts, us, r1, r2, hl, k⟩ := h
  exact op_catA pins s σ H x y v u Q I rx ry (catT r1 r2 hl k)
/-- a tuple, a list displayed: the heap behind it only by what it holds -/
def tTupC (K : PySem.W.Frag) (t : TA) : TE := fun σ H Q => t σ H fun xs H1 => xs.length ≤ sizeLine ∧ ∀ p H2, H1 p = none → H2 p = some (.tup xs) → Ch K [] H1 H2 → Q (.ref p) H2
def tLstC (K : PySem.W.Frag) (t : TA) : TE := fun σ H Q => t σ H fun xs H1 => xs.length ≤ sizeLine ∧ ∀ p H2, H1 p = none → H2 p = some (.lst xs) → Ch K [] H1 H2 → Q (.ref p) H2
theorem pe_tupC {X : Cx} {es : List Expr} {t : TA} {pos : Pos} {x1} (h : PA X es t) : PE X (.Tuple es x1 pos) (tTupC X.K t) := by
  refine ⟨fun pins s σ H Q I hq => ?_⟩
  refine wpAny_Tuple_spliced (thn (h.run pos pins s σ H _ I hq) fun us s1 ⟨xs, H1, I1, r, z, q⟩ => ⟨by rw [← r.length]; exact z, ?_⟩)
  have hf : H1 s1.heap.objs.size = none := I1.hok.fresh (Nat.le_refl _)
  refine ⟨.ref s1.heap.objs.size, upd H1 s1.heap.objs.size (.tup xs), I1.laid (t' := s1.toks) (fun b u e => Heap.get?_push_of_some _ e) (Nat.le_refl _) ?_, rfl, q _ _ hf upd_same (Ch.new hf)⟩
  exact ⟨z, us, r, ⟨_, Heap.get?_push_size _ rfl, rfl, _, rfl⟩⟩
theorem pe_lstC {X : Cx} {es : List Expr} {t : TA} {pos : Pos} (h : PA X es t) : PE X (.List es pos) (tLstC X.K t) := by
  refine ⟨fun pins s σ H Q I hq => ?_⟩
  refine wpAny_List_spliced (thn (h.run pos pins s σ H _ I hq) fun us s1 ⟨xs, H1, I1, r, z, q⟩ => ⟨by rw [← r.length]; exact z, ?_⟩)
  have hf : H1 s1.heap.objs.size = none := I1.hok.fresh (Nat.le_refl _)
  refine ⟨.ref s1.heap.objs.size, upd H1 s1.heap.objs.size (.lst xs), I1.laid (t' := s1.toks) (fun b u e => Heap.get?_push_of_some _ e) (Nat.le_refl _) ?_, rfl, q _ _ hf upd_same (Ch.new hf)⟩
  exact ⟨z, us, 0, r, Heap.get?_push_size _ rfl⟩
theorem g_tupC {tl : TA} {σ : L2.St} (h : tl σ H fun xs H1 => xs.length ≤ sizeLine ∧ ∀ p H2, H1 p = none → H2 p = some (.tup xs) → Ch K [] H1 H2 → Q (.ref p) H2) : tTupC K tl σ H Q := h
theorem g_lstC {tl : TA} {σ : L2.St} (h : tl σ H fun xs H1 => xs.length ≤ sizeLine ∧ ∀ p H2, H1 p = none → H2 p = some (.lst xs) → Ch K [] H1 H2 → Q (.ref p) H2) : tLstC K tl σ H Q := h
theorem g_BM {T : String} {r : V → List V → Hp → VK → Prop} {to : TE} {t : TA} {σ : L2.St} (h : to σ H fun x H1 => tyV K T x H1 ∧ t σ H1 fun xs H2 => r x xs H2 Q) : tBM K T r to t σ H Q := h
theorem g_BM0 {T : String} {r : V → List V → Hp → VK → Prop} {to : TE} {σ : L2.St} (h : to σ H fun x H1 => tyV K T x H1 ∧ r x [] H1 Q) : tBM0 K T r to σ H Q := h
theorem g_tyL {R : Prop} {l : Addr} {xs : List V} (h : SqL K H l xs) (k : R) : tyV K "list" (.ref l) H ∧ R := ⟨.inl ⟨rfl, _, h⟩, k⟩
/-- t[lo:hi] -/
def cutT (ts : List T) (lo hi : Option Int) : List T := (ts.drop (HT.sIx ts.length 0 lo)).take (HT.sIx ts.length ts.length hi - HT.sIx ts.length 0 lo)
def rSlR (K : PySem.W.Frag) : V → Option Int → Option Int → Hp → VK → Prop := fun x lo hi H Q => ∃ ts, Rep K H x (.tup ts) ∧ ∀ v H', Ch K [] H H' → Rep K H' v (.tup (cutT ts lo hi)) → Q v H'
theorem sl_tupR {X : Cx} : SlR X (rSlR X.K) := by
  intro pins s σ H x v vl vu lo hi sl Q I rx hs pl pu h
  obtain ⟨ts, r, k⟩ := h
  obtain ⟨a, xs, rfl, hx, rs⟩ := r.tupI
  have hl := rs.len
  refine sl_tupA pins s σ H _ v vl vu lo hi sl Q I rx hs pl pu ⟨a, xs, rfl, hx, fun hw => k _ H Ch.refl ?_, fun _ p np => k _ _ (Ch.new np) (.tup (SqT.of upd_same) ?_)⟩
  · rw [hl] at hw
    unfold cutT
    rw [hw.1, hw.2, List.drop_zero, Nat.sub_zero, List.take_length]
    exact r
  · unfold cutT cutV
    rw [← hl]
    exact ((rs.drop _).take _).kt (Ch.new (S := []) np).kt
theorem cutT_to (ts : List T) (n : Int) (h : 0 ≤ n) : cutT ts none (some n) = ts.take n.toNat := by
  unfold cutT
  obtain ⟨k, rfl⟩ : ∃ k : Nat, n = k := ⟨n.toNat, by omega⟩
  rw [HT.sIx_none, HT.sIx_nat, List.drop_zero, Nat.sub_zero, Int.toNat_natCast]
  by_cases hk : k ≤ ts.length
  · rw [Nat.min_eq_left hk]
  · rw [Nat.min_eq_right (by omega), List.take_of_length_le (Nat.le_refl _), List.take_of_length_le (by omega)]
theorem cutT_from (ts : List T) (k : Nat) : cutT ts (some (k : Int)) none = ts.drop k := by
  unfold cutT
  rw [HT.sIx_none, HT.sIx_nat]
  by_cases hk : k ≤ ts.length
  · rw [Nat.min_eq_left hk, List.take_of_length_le]
    rw [List.length_drop]
    exact Nat.le_refl _
  · rw [Nat.min_eq_right (by omega), List.drop_eq_nil_of_le (by omega : ts.length ≤ k), List.drop_eq_nil_of_le (Nat.le_refl _), List.take_nil]
theorem g_sl {r : V → Option Int → Option Int → Hp → VK → Prop} {te : TE} {tl th : TO} {σ : L2.St} (h : te σ H fun x H1 => tl σ H1 fun l H2 => th σ H2 fun u H3 => r x l u H3 Q) : L2.tSl r te tl th σ H Q := h
theorem g_noPart {σ : L2.St} {R : Option Int → Hp → Prop} (h : R none H) : tNoPart σ H R := h
theorem g_part {te : TE} {σ : L2.St} {R : Option Int → Hp → Prop} (h : te σ H fun x H1 => ∃ i, x = .int i ∧ R (some i) H1) : tPart te σ H R := h
/-- xs + ys -/
def rCatL (K : PySem.W.Frag) : R2 := fun x y H Q => ∃ l b xs zs, x = .ref l ∧ y = .ref b ∧ H l = some (.lst xs) ∧ H b = some (.lst zs) ∧ xs.length + zs.length ≤ sizeLine ∧ ∀ p H2, H p = none → H2 p = some (.lst (xs ++ zs)) → Ch K [] H H2 → Q (.ref p) H2
theorem op_catL {X : Cx} : OpR X (binaryOp .Add) (rCatL X.K) := by
  intro pins s σ H x y v u Q I rx ry h
  obtain ⟨l, b, xs, zs, rfl, rfl, h1, h2, hl, k⟩ := h
  exact op_cat pins s σ H _ _ v u Q I rx ry ⟨l, b, xs, zs, rfl, rfl, h1, h2, hl, fun p np => k p _ np upd_same (Ch.new np)⟩
/-- xs * k -/
def rRepL (K : PySem.W.Frag) : R2 := fun x y H Q => ∃ l k xs, x = .ref l ∧ y = .int k ∧ H l = some (.lst xs) ∧ -(2 ^ 63) ≤ k ∧ k < 2 ^ 63 ∧ xs.length * k.toNat ≤ sizeLine ∧ ∀ p H2, H p = none → H2 p = some (.lst (List.replicate k.toNat xs).flatten) → Ch K [] H H2 → Q (.ref p) H2
theorem op_repL {X : Cx} : OpR X (binaryOp .Mult) (rRepL X.K) := by
  intro pins s σ H x y v u Q I rx ry h
  obtain ⟨l, k, xs, rfl, rfl, h1, h2, h3, hl, q⟩ := h
  exact op_rep pins s σ H _ _ v u Q I rx ry ⟨l, k, xs, rfl, rfl, h1, h2, h3, hl, fun p np => q p _ np upd_same (Ch.new np)⟩
theorem g_while {c : TT} {tb : TS} {D : Ends} {σ : L2.St} (h : ∃ W : Nat → L2.St → Hp → Prop, (∃ m, W m σ H) ∧ ∀ m σ H, W m σ H →
    c σ H fun b H1 => if b = true then ∃ N : L2.St → Hp → Prop, (∀ σ' H', N σ' H' → ∃ m', m' < m ∧ W m' σ' H') ∧ tb { D with nx := N, ct := N, bk := D.nx } σ H1 else D.nx σ H1) : tWhile c tb D σ H := h
theorem g_pair {tk tv : TE} {r : List (TE × TE)} {σ : L2.St} {QP : List (V × V) → Hp → Prop} (h : tk σ H fun x H1 => tv σ H1 fun y H2 => tPairs r σ H2 fun ps H3 => QP ((x, y) :: ps) H3) : tPairs ((tk, tv) :: r) σ H QP := h
theorem g_pair0 {σ : L2.St} {QP : List (V × V) → Hp → Prop} (h : QP [] H) : tPairs [] σ H QP := h
theorem g_disp {trs : List (TE × TE)} {σ : L2.St} (h : ∀ p, H p = none → tPairs trs σ (upd H p (.dK [])) fun ps H2 => H2 p = some (.dK []) ∧ ∃ kvs : List (Key × V), ps = kvs.map (fun kv => (kV kv.1, kv.2)) ∧ kvs.length ≤ 15 ∧ Q (.ref p) (upd H2 p (.dK (mergeK [] kvs)))) : tDisp trs σ H Q := h
/-- within a comprehension: the frag by name -/
theorem pe_tupCK (K : PySem.W.Frag) {X : Cx} {es : List Expr} {t : TA} {pos : Pos} {x1} (h : PA X es t) (hK : X.K = K := by rfl) : PE X (.Tuple es x1 pos) (tTupC K t) := hK ▸ pe_tupC h
theorem pe_lstCK (K : PySem.W.Frag) {X : Cx} {es : List Expr} {t : TA} {pos : Pos} (h : PA X es t) (hK : X.K = K := by rfl) : PE X (.List es pos) (tLstC K t) := hK ▸ pe_lstC h
theorem ix_listK (K : PySem.W.Frag) {X : Cx} (hK : X.K = K := by rfl) : IxR X (rIxL K) := hK ▸ ix_list
theorem ix_tupK (K : PySem.W.Frag) {X : Cx} (hK : X.K = K := by rfl) : IxR X (rIxT K) := hK ▸ ix_tup
theorem op_catRK (K : PySem.W.Frag) {X : Cx} (hK : X.K = K := by rfl) : OpR X (binaryOp .Add) (rCatR K) := hK ▸ op_catR
theorem op_catLK (K : PySem.W.Frag) {X : Cx} (hK : X.K = K := by rfl) : OpR X (binaryOp .Add) (rCatL K) := hK ▸ op_catL
theorem op_repLK (K : PySem.W.Frag) {X : Cx} (hK : X.K = K := by rfl) : OpR X (binaryOp .Mult) (rRepL K) := hK ▸ op_repL
theorem sl_tupRK (K : PySem.W.Frag) {X : Cx} (hK : X.K = K := by rfl) : SlR X (rSlR K) := hK ▸ sl_tupR
theorem szlt {n : Nat} (h : n ≤ 1000) : n < sizeLine := Nat.lt_of_le_of_lt h (by decide)
theorem szle {n : Nat} (h : n ≤ 1000) : n ≤ sizeLine := Nat.le_trans h (by decide)
end
/-! ### types -/
def tyN : T → String
  | .int _ => "int"
  | .str _ => "str"
  | .tup _ => "tuple"
theorem Rep.ty {K : PySem.W.Frag} {H : Hp} {v : V} {t : T} (r : Rep K H v t) : TyX K H v (.type (tyN t)) := by
  cases r with
  | int i => exact .base (.int i)
  | str s => exact .base (.str s)
  | tup h q =>
    rcases h with (h | ⟨o, h⟩) | ⟨o, its, n, h, c, _⟩
    · exact .base (.tup h)
    · exact .fTuple h
    · exact .kTuple h c
theorem kit_int : ∀ t : T, kitB (tyN t) "int" = some (match t with | .int _ => true | _ => false)
  | .int _ => (show kitB "int" "int" = some true by decide +kernel)
  | .str _ => (show kitB "str" "int" = some false by decide +kernel)
  | .tup _ => (show kitB "tuple" "int" = some false by decide +kernel)
theorem kit_str : ∀ t : T, kitB (tyN t) "str" = some (match t with | .str _ => true | _ => false)
  | .int _ => (show kitB "int" "str" = some false by decide +kernel)
  | .str _ => (show kitB "str" "str" = some true by decide +kernel)
  | .tup _ => (show kitB "tuple" "str" = some false by decide +kernel)
theorem kit_tuple : ∀ t : T, kitB (tyN t) "tuple" = some (match t with | .tup _ => true | _ => false)
  | .int _ => (show kitB "int" "tuple" = some false by decide +kernel)
  | .str _ => (show kitB "str" "tuple" = some false by decide +kernel)
  | .tup _ => (show kitB "tuple" "tuple" = some true by decide +kernel)
theorem kit_bool : ∀ t : T, kitB (tyN t) "bool" = some false
  | .int _ => (show kitB "int" "bool" = some false by decide +kernel)
  | .str _ => (show kitB "str" "bool" = some false by decide +kernel)
  | .tup _ => (show kitB "tuple" "bool" = some false by decide +kernel)
theorem g_isi {K : PySem.W.Frag} {H : Hp} {Q : VK} {x : V} {a n : String} {b : Bool} (ty : TyX K H x (.type a)) (k : kitB a n = some b) (q : Q (.bl b) H) : rIsi K [x, .ty n] H Q :=
  ⟨x, .ty n, .type a, .type n, b, rfl, .ty n, ty, kit_ty k, q⟩
/-! ### what any heap knows: no list, no tuple is longer than the line -/
def Lens (K : PySem.W.Frag) (H : Hp) : Prop := (∀ a xs, SqT K H a xs → xs.length ≤ sizeLine) ∧ ∀ a xs, SqL K H a xs → xs.length ≤ sizeLine
def tLens (K : PySem.W.Frag) (t : TE) : TE := fun σ H Q => t σ H fun v H' => Lens K H' → Q v H'
theorem pe_lens {X : Cx} {e : Expr} {t : TE} (h : PE X e t) : PE X e (tLens X.K t) := by
  refine ⟨fun pins s σ H Q I hw => ?_⟩
  exact thn (h.run pins s σ H _ I hw) fun b s' ⟨v, H', I', r, q⟩ => ⟨v, H', I', r, q ⟨fun a xs hx => let ⟨_, _, _, z⟩ := I'.tuple hx; z, fun a xs hx => let ⟨_, _, _, z⟩ := I'.list hx; z⟩⟩
theorem g_lens {K : PySem.W.Frag} {t : TE} {σ : L2.St} {H : Hp} {Q : VK} (h : t σ H fun v H' => Lens K H' → Q v H') : tLens K t σ H Q := h
theorem encPs_app : ∀ (a b : List Pt), encPs (a ++ b) = encPs a ++ encPs b
  | [], b => rfl
  | p :: r, b => congrArg (encP p :: ·) (encPs_app r b)
theorem dpPs_app : ∀ (a b : List Pt), dpPs (a ++ b) = max (dpPs a) (dpPs b)
  | [], b => by simp [dpPs]
  | p :: r, b => by have := dpPs_app r b; simp only [List.cons_append, dpPs]; omega
theorem wfPs_app {n : Nat} {ps : List Nat} : ∀ {a b : List Pt}, wfPs n ps a → wfPs n ps b → wfPs n ps (a ++ b)
  | [], b, _, h => h
  | p :: r, b, h, k => ⟨h.1, wfPs_app h.2 k⟩
theorem at_of' {α : Type} {xs : List α} {n : Int} {j : Nat} (hj : j < xs.length) (e : n = (j : Int)) : atI xs n = some xs[j] := by
  rw [e]
  exact atI_nat (List.getElem?_eq_getElem hj)
theorem at_all {α : Type} {P : α → Prop} {xs : List α} {n : Int} (h0 : 0 ≤ n) (h1 : n < xs.length) (h : ∀ v ∈ xs, P v) : ∃ v, atI xs n = some v ∧ P v := by
  have hj : n.toNat < xs.length := by omega
  exact ⟨xs[n.toNat], at_of' hj (by omega), h _ (List.getElem_mem hj)⟩
mutual
theorem wfD_mono {nm : Nat} {ps : List Nat} : ∀ {n m : Nat} {d : Dd}, n ≤ m → wfD nm ps n d → wfD nm ps m d
  | _, _, .set _ _, _, h => h
  | _, _, .put _ _, _, h => h
  | _, _, .say _, _, h => h
  | _, _, .ite _ _ _, l, h => ⟨h.1, h.2.1, wfBs_mono l h.2.2.1, wfBs_mono l h.2.2.2⟩
  | _, _, .whl _ _, l, h => ⟨h.1, h.2.1, wfBs_mono l h.2.2⟩
  | _, _, .ret _, _, h => h
  | _, _, .dop _, _, h => h
theorem wfBs_mono {nm : Nat} {ps : List Nat} : ∀ {n m : Nat} {b : List Dd}, n ≤ m → wfBs nm ps n b → wfBs nm ps m b
  | _, _, [], _, _ => by unfold wfBs; trivial
  | 0, _, _ :: _, _, h => h.elim
  | n + 1, 0, _ :: _, l, _ => by omega
  | n + 1, m + 1, d :: r, l, h => ⟨wfD_mono (by omega) h.1, wfBs_mono l h.2⟩
end
end Bq
end

section
set_option maxRecDepth 100000
set_option maxHeartbeats 1000000
namespace Bq
open PySem PySem.Spec PyProof.Rows L2
/-- d.update(e) -/
def rDupd : V → List V → Hp → VK → Prop := fun x xs H Q => ∃ a b kvs more, x = .ref a ∧ xs = [.ref b] ∧ a ≠ b ∧ H a = some (.dK kvs) ∧ H b = some (.dK more) ∧ kvs.length + more.length ≤ sizeLine ∧ Q .non (upd H a (.dK (mergeK kvs more)))
theorem mt_dupd {X : Cx} : MtR X "dict.update" rDupd := by
  intro pins s σ H x xs v us Q I rx rxs h
  obtain ⟨a, b, kvs, more, rfl, rfl, hne, ea, eb, hz, q⟩ := h
  obtain rfl : v = Value.ref a := rx
  obtain ⟨u, rfl, ru⟩ := Vals.one rxs
  obtain rfl : u = Value.ref b := ru
  obtain ⟨z, hd, vs, rel, dd⟩ := dk_of I.hok ea
  obtain ⟨z2, hd2, ws, rel2, dd2⟩ := dk_of I.hok eb
  refine call_meetsIn PySem.F.slot_dict_update dd.typeIs PySem.F.entry_dict_update (PySem.F.args_dict_update_2 _ _) (meets_dict_update (mixKind X.prog X.w) a b hne hd2) ⟨vs, ws, dd, dd2, by rw [← rel.length, ← rel2.length]; exact hz, fun h' dd' _ hs => ?_⟩
  have he : ∃ q, h'.get? a = some q := let ⟨q, _, _, hq, _⟩ := dd'; ⟨q, hq⟩
  have hl : (mergeK kvs more).length ≤ sizeLine := Nat.le_trans (length_mergeK more kvs) hz
  exact ⟨.non, _, d_write (t' := s.toks) I (by rw [ea]; exact True.intro) hs he (dk_new hl hd (rel2.merge rel) dd'), rfl, q⟩
/-- xs[i], a list or a tuple -/
def rIxE (K : PySem.W.Frag) : R2 := fun x y H Q => rIxL K x y H Q ∨ rIxT K x y H Q
theorem ix_seq {X : Cx} : IxR X (rIxE X.K) := by
  intro value slice pins s σ H x y v u Q I rx ry h hs
  rcases h with h | h
  · exact ix_list value slice pins s σ H x y v u Q I rx ry h hs
  · exact ix_tup value slice pins s σ H x y v u Q I rx ry h hs
theorem g_inT {K : PySem.W.Frag} {H : Hp} {p : Addr} {xs : List V} {x : V} {Q : VK} (h : SqT K H p xs) (fx : flatV x = true) (fs : xs.all flatV = true) (q : Q (.bl (inV x xs)) H) : rIn K false x (.ref p) H Q :=
  ⟨p, xs, rfl, .inr h, fx, fs, q⟩
theorem g_isN {H : Hp} {x : V} {Q : VK} (q : Q (.bl (decide (x = .non))) H) : (fun (x y : V) (H : Hp) (Q : VK) => y = .non ∧ Q (.bl (decide (x = .non))) H) x .non H Q := ⟨rfl, q⟩
theorem tkT {A B : Prop} {b : Bool} (e : b = true) (h : A) : if b = true then A else B := by rw [if_pos e]; exact h
theorem tkF {A B : Prop} {b : Bool} (e : b = false) (h : B) : if b = true then A else B := by rw [e, if_neg Bool.false_ne_true]; exact h
theorem g_dget2 {td ty tx : TE} {σ : L2.St} {H : Hp} {Q : VK} (h : td σ H fun x H1 => ∃ a, x = .ref a ∧ IsD H1 a ∧ ty σ H1 fun y H2 => tx σ H2 fun z H3 => ∃ o, DGet H3 a y o ∧ Q (o.getD z) H3) : tDGet2 td ty tx σ H Q := h
end Bq
end

section
set_option maxRecDepth 100000
set_option maxHeartbeats 1000000
namespace Bq
open PySem PySem.Spec PyProof.Rows L2
/-! ### match over tuples that begin with a text -/
def capB : List (Option Str) → List Value → List (Str × Value)
  | some x :: r, v :: vs => (x, v) :: capB r vs
  | none :: r, _ :: vs => capB r vs
  | _, _ => []
def capS : List (Option Nat) → List V → L2.St → L2.St
  | some i :: r, v :: vs, σ => capS r vs (σ.set i (some v))
  | none :: r, _ :: vs, σ => capS r vs σ
  | _, _, σ => σ
def capN : List Pattern → Option (List (Option Str))
  | [] => some []
  | .MatchAs none n _ :: r => (capN r).map (n :: ·)
  | _ => none
theorem each_cap {M : Model} {A : Around} {E : Value → Shared → Prop} {env : Env} {s : Shared} : ∀ {ps : List Pattern} {nms : List (Option Str)} {vs : List Value} {Q : Option (List (Str × Value)) → Shared → Prop}, capN ps = some nms → vs.length = ps.length → Q (some (capB nms vs)) s →
    wpAny M A (matchEach ps env vs) Q E s
  | [], nms, vs, Q, h, hl, q => by
    cases h
    refine wpAny_matchEach_nil ?_
    cases vs with
    | nil => exact q
    | cons v r => cases hl
  | p :: r, nms, vs, Q, h, hl, q => by
    cases vs with
    | nil => cases hl
    | cons v us =>
      cases p with
      | MatchAs pp n pos =>
        cases pp with
        | some x => cases h
        | none =>
          cases e : capN r with
          | none =>
            simp only [capN, e] at h
            cases h
          | some ns =>
            simp only [capN, e, Option.map_some, Option.some.injEq] at h
            subst h
            refine wpAny_matchEach_cons (wpAny_matchPattern_Capture ?_)
            refine each_cap e (Nat.succ.inj hl) ?_
            cases n with
            | none => exact q
            | some x => exact q
      | _ => cases h
/-- the names caught stand in their slots -/
inductive CapOk (X : Cx) : List (Option Str) → List (Option Nat) → Prop where
  | nil : CapOk X [] []
  | skip {n sl} (h : CapOk X n sl) : CapOk X (none :: n) (none :: sl)
  | cap {x i n sl} (hi : X.N[i]? = some x) (hx : Loc X.env.scope x) (hf : X.fn x = true ∨ X.env.scope.names.lookup x = some .local) (h : CapOk X n sl) : CapOk X (some x :: n) (some i :: sl)
theorem bind_cap {X : Cx} (hN : X.N.Nodup) {pins : List (Addr × Obj)} {H : Hp} {n : List (Option Str)} {sl : List (Option Nat)} (c : CapOk X n sl) : ∀ {vs : List V} {us : List Value} {σ : L2.St} {s : Shared}, Vals vs us → Inv X pins σ H s →
    wpAny (model X.prog X.w) X.A (assignInOrder ((capB n us).map fun p => bindName X.env p.1) ((capB n us).map (·.2))) (fun _ s' => Inv X pins (capS sl vs σ) H s') X.xe s := by
  induction c with
  | nil =>
    intro vs us σ s r I
    have e : capB [] us = [] := by cases us <;> rfl
    rw [e]
    have e2 : capS [] vs σ = σ := by cases vs <;> rfl
    rw [e2]
    exact assignInOrder_nil I
  | skip h ih =>
    intro vs us σ s r I
    cases r with
    | nil => exact assignInOrder_nil I
    | cons r0 r => exact ih r I
  | cap hi hx hf h ih =>
    intro vs us σ s r I
    cases r with
    | nil => exact assignInOrder_nil I
    | cons r0 r => exact assignInOrder_cons (wpAny_bindName (store_ok I hN hi hx r0 (fun s' I' => ih r I') hf))
structure PCs (X : Cx) (cases : List MatchCase) (t : V → TS) : Prop where
  run : ∀ (first : Bool) (pins : List (Addr × Obj)) (s : Shared) (σ : L2.St) (H : Hp) (D : Ends) (v : V) (u : Value), Inv X pins σ H s → RelV v u → t v D σ H → wpAny (model X.prog X.w) X.A (matchCases cases X.env u first) (SP X pins D) X.xe s
def tMatch (te : TE) (t : V → TS) : TS := fun D σ H => te σ H fun v H1 => t v D σ H1
theorem ps_match {X : Cx} {e : Expr} {cs : List MatchCase} {pos : Pos} {te : TE} {t : V → TS} (he : PE X e te) (hc : PCs X cs t) : PS X (.Match e cs pos) (tMatch te t) := by
  refine ⟨fun pins s σ H D I h => ?_⟩
  exact wpAny_Match (thn (he.run pins s σ H _ I h) fun u s1 ⟨v, H1, I1, r, q⟩ => hc.run true pins s1 σ H1 D v u I1 r q)
theorem pcs_nil {X : Cx} : PCs X [] (fun _ => tNext) := ⟨fun _ _ s σ H D _ _ I _ q => wpAny_matchCases_nil ⟨σ, H, I, q⟩⟩
theorem pcs_wild {X : Cx} {body : List Stmt} {tb : TS} {p : Pos} (hb : PSs X body tb) : PCs X [⟨.MatchAs none none p, none, body⟩] (fun _ => tb) := ⟨fun _ pins s σ H D _ _ I _ q =>
  wpAny_matchCases_cons (wpAny_matchPattern_Capture (assignInOrder_nil (hb.run pins s σ H D I q)))⟩
/-- the next case: a tuple of n whose first is the text w; the rest as the slots say -/
def tCase (K : PySem.W.Frag) (w : Str) (n : Nat) (sl : List (Option Nat)) (tb : TS) (tr : V → TS) : V → TS := fun v D σ H => ∃ a z xs, v = .ref a ∧ SqT K H a (.str z :: xs) ∧ if decide (xs.length = n ∧ z = w) = true then tb D (capS sl xs σ) H else tr v D σ H
theorem pcs_case {X : Cx} {w : Str} {k : Nat} {p0 p1 p2 : Pos} {ps : List Pattern} {nms : List (Option Str)} {sl : List (Option Nat)} {body : List Stmt} {rest : List MatchCase} {tb : TS} {tr : V → TS} {n : Nat} (hcalm : X.calm = true) (hN : X.N.Nodup) (hcap : capN ps = some nms) (hsl : CapOk X nms sl)
    (hb : PSs X body tb) (hr : PCs X rest tr) (hlen : ps.length = n := by rfl) (hstar : (Pattern.MatchValue (.Constant (.str w) k p0) p1 :: ps).findIdx? (·.isStar) = none := by rfl) :
    PCs X (⟨.MatchSequence (.MatchValue (.Constant (.str w) k p0) p1 :: ps) p2, none, body⟩ :: rest) (tCase X.K w n sl tb tr) := by
  refine ⟨fun first pins s σ H D v u I r h => ?_⟩
  obtain ⟨a, z, xs, rfl, hS, q⟩ := h
  cases r
  obtain ⟨its, rv, ht, hz⟩ := I.tuple hS
  have hfit : ((its.toArray.size : Nat) : Int) < 2 ^ 63 := by
    have h1 := rv.length
    rw [sizeLine_eq] at hz
    simp only [List.size_toArray]
    omega
  have hits : its.toArray.size = xs.length + 1 := by
    have h1 := rv.length
    simp only [List.size_toArray, ← h1, List.length_cons]
  have hwild : ((Pattern.MatchValue (.Constant (.str w) k p0) p1 :: ps).all fun p => p.isWildcard || (p.isStar && p.names.isEmpty)) = false := by
    simp [List.all_cons, Pattern.isWildcard, Pattern.isStar]
  refine wpAny_matchCases_cons ?_
  by_cases hl : xs.length = n
  · refine matchSeq_tuple_hit ht hfit (by rw [hits, List.length_cons, hlen, hl]) ?_ hstar hwild
    have e : (Pattern.MatchValue (.Constant (.str w) k p0) p1 :: ps).length = its.toArray.size := by rw [hits, List.length_cons, hlen, hl]
    rw [e]
    have I0 : Inv X pins σ H { s with toks := s.toks + 1 + 1 } := (I.tok _).tok _
    refine unpackItems_tuple (I.ok.hd hcalm) ht fun h' hx => ?_
    have I1 : Inv X pins σ H { s with heap := h', toks := s.toks + 1 + 1 } := I0.kept (t' := s.toks + 1 + 1) fun b o e => hx b o (Nat.ne_of_lt (Heap.lt_size e)) e
    cases rv with
    | @cons _ u0 _ us r0 rr =>
      obtain ⟨t0, rfl⟩ := r0
      show wpAny _ _ (matchEach (Pattern.MatchValue (.Constant (.str w) k p0) p1 :: ps) X.env (Value.str z t0 :: us)) _ _ _
      refine wpAny_matchEach_cons (wpAny_matchPattern_Value (Calls.Constant_str ?_))
      have I2 := I1.tok (s.toks + 1 + 1 + 1)
      refine wpAny_mono (op_eq pins _ σ H (.str z) (.str w) _ _ (fun v H' => v = .bl (decide (V.str z = V.str w)) ∧ H' = H) I2 ⟨_, rfl⟩ ⟨_, rfl⟩ ⟨rfl, rfl, rfl⟩) (fun c s2 hc => ?_) fun _ _ z => z
      obtain ⟨_, H3, I3, rb, rfl, e3⟩ := hc
      subst e3
      cases rb
      refine wpAny_truthy_bool ?_
      have hus : us.length = ps.length := by rw [hlen, ← hl, rr.length]
      by_cases hw : z = w
      · subst hw
        rw [if_pos (by simp)]
        refine each_cap hcap hus ?_
        simp only [List.nil_append]
        rw [if_pos (by simp [hl])] at q
        exact wpAny_mono (bind_cap hN hsl rr I3) (fun _ s4 I4 => hb.run pins s4 _ _ D I4 q) fun _ _ z => z
      · rw [if_neg (by simpa using hw)]
        rw [if_neg (by simp [hw])] at q
        exact hr.run false pins s2 σ _ D (.ref a) _ I3 rfl q
  · refine matchSeq_tuple_miss ht hfit (by rw [hits, List.length_cons, hlen]; omega) ?_ hstar hwild
    rw [if_neg (by simp [hl])] at q
    exact hr.run false pins _ σ H D (.ref a) _ ((I.tok _).tok _) rfl q
end Bq
end

section
set_option maxRecDepth 100000
set_option maxHeartbeats 1000000
namespace Bq
open PySem PySem.Spec PyProof.Rows L2
/-! ### del xs[a:] -/
theorem cut_eq (a : Nat) : ∀ (its : List Value) (k n : Nat), n = k + its.length → (its.zipIdx k).filterMap (fun (x, i) => if (if (1 : Int) > 0 then ((decide ((a : Int) ≤ (i : Nat)) && decide (((i : Nat) : Int) < (n : Nat))) && ((((i : Nat) : Int) - (a : Int)) % 1 == 0)) else (decide (((n : Nat) : Int) < (i : Nat)) && decide (((i : Nat) : Int) ≤ (a : Int)) && (((a : Int) - ((i : Nat) : Int)) % (-1) == 0))) = true then none else some x) = its.take (a - k)
  | [], k, n, _ => by simp
  | x :: r, k, n, hn => by
    have ih := cut_eq a r (k + 1) n (by rw [hn, List.length_cons]; omega)
    rw [List.zipIdx_cons, List.filterMap_cons, ih]
    have h1 : ((((k : Nat) : Int) - (a : Int)) % 1 == 0) = true := by rw [Int.emod_one]; rfl
    have h2 : decide (((k : Nat) : Int) < (n : Nat)) = true := decide_eq_true (by rw [hn, List.length_cons]; omega)
    by_cases h : a ≤ k
    · have h3 : decide ((a : Int) ≤ (k : Nat)) = true := decide_eq_true (by omega)
      simp only [h1, h2, h3, show (1 : Int) > 0 by decide, if_true, Bool.and_self]
      rw [show a - k = 0 by omega, show a - (k + 1) = 0 by omega]
      simp
    · have h3 : decide ((a : Int) ≤ (k : Nat)) = false := decide_eq_false (by omega)
      simp only [h3, show (1 : Int) > 0 by decide, if_true, Bool.false_and, Bool.false_eq_true, if_false]
      rw [show a - k = (a - (k + 1)) + 1 by omega]
      simp
section
variable {prog : Program} {w : World} {A : Around} {E : Value → Shared → Prop} {s : Shared}
theorem bounds_tail {a n : Nat} (ha : a ≤ n) : sliceBounds (some (a : Int)) none none n = ((a : Int), (n : Int), 1) := by
  simp only [sliceBounds, Option.getD_none]
  have h1 : ¬ ((a : Int) < 0) := by omega
  simp only [h1, if_false, show (1 : Int) > 0 by decide, if_true]
  congr 1
  · omega
theorem upd_cut {M : Model} {l : Addr} {items : Array Value} {n a : Nat} {f : Array Value → Array Value} {Q : Unit → Shared → Prop} (hf : f items = (items.toList.take a).toArray) (hsz : items.size ≤ sizeLine)
    (e : s.heap.get? l = some { cls := .type "list", data := .seq items n }) (h : Q () { s with heap := s.heap.update l (Obj.mapSeq f) }) : wpAny M A (updateSeq l f) Q E s :=
  wpAny_updateSeq (hz := hsz) (_hz' := by
    rw [hf, List.size_toArray, List.length_take]
    simp only [Array.length_toList]
    omega) e rfl h
set_option maxRecDepth 100000 in
theorem delItem_cut {l sl : Addr} {items : Array Value} {n : Nat} {vl : Value} {a : Nat} {Q : Unit → Shared → Prop}
    (e : s.heap.get? l = some { cls := .type "list", data := .seq items n }) (hs : s.heap.IsSliceOf sl vl .none .none) (pl : IsPart vl (some (a : Int))) (ha : a ≤ items.size) (hsz : items.size ≤ sizeLine)
    (h : ∀ f : Array Value → Array Value, f items = (items.toList.take a).toArray → Q () { s with heap := s.heap.update l (Obj.mapSeq f) }) :
    wpAny (model prog w) A (delItem (.ref l) (.ref sl)) Q E s := by
  have hl : s.heap.IsList l items := PySem.IsL.isList e
  obtain ⟨os, hos, hcs, hds⟩ := id hs
  have hTs : s.TypeIs (.ref sl) "slice" := ⟨os, hos, hcs⟩
  have hstep : ¬ ((rawPart none == rawInt 0) = true) := Bool.false_ne_true
  unfold delItem
  try with_reducible refine wpAny_holding ?_
  first | refine wpAny_bind (wpAny_pure ?_) | skip
  refine wpAny_bind (wpAny_sequenceKey hl.typeIs (by decide) ?_)
  refine wpAny_bind (wpAny_callSpecial?_slot (name := Str.ofString "__delitem__") hl.typeIs F.slot_list_delitem
    (wpAny_call_entry F.slot_list_delitem hl.typeIs F.entry_list_delitem ?_ (F.args_list_delitem_2 _ _)))
  show wpAny _ _ (Builtin.List.listSubscript? (.ref sl) >>= _) _ _ s
  refine wpAny_bind ?_
  unfold Builtin.List.listSubscript?
  refine wpAny_bind (wpAny_specialOf hTs slice_no_index ?_)
  simp only [Option.isNone_none, if_true]
  refine wpAny_pure ?_
  show wpAny _ _ (typeOf (.ref sl) >>= _) _ _ s
  refine wpAny_bind (wpAny_typeOf hTs ?_)
  first
    | rw [if_neg (by decide)]
    | refine PySem.W.KFB.if_not (by decide) ?_
  rw [listSliceParts_eq]
  refine wpAny_bind (wpAny_bind (wpAny_field hos hds (x := .none) rfl (wpAny_bind (wpAny_listPart .none ?_))))
  rw [if_neg hstep]
  refine wpAny_bind (wpAny_field hos hds (x := vl) rfl (wpAny_bind (wpAny_listPart pl ?_)))
  refine wpAny_bind (wpAny_field hos hds (x := .none) rfl (wpAny_bind (wpAny_listPart .none (wpAny_pure ?_))))
  unfold Builtin.List.listItems
  refine wpAny_bind (wpAny_bind (wpAny_seqItems e rfl (wpAny_pure ?_)))
  refine wpAny_bind (wpAny_of_eq ((sliceIndices_raw (some (a : Int)) none none items.size (by simp)).trans (congrArg (pure : Int × Int × Int → Sem (Int × Int × Int)) (bounds_tail ha))) ?_)
  refine wpAny_bind (wpAny_rule ?_)
  refine wpAny_bind (m := updateSeq l _) ?_
  refine upd_cut (a := a) ?hf hsz e ?_
  case hf =>
    show (List.filterMap _ items.toList.zipIdx).toArray = _
    exact congrArg List.toArray (cut_eq a items.toList 0 items.size (by simp))
  refine wpAny_bind (wpAny_letGo ?_)
  first
    | refine wpAny_bind (wpAny_pure (wpAny_pure ⟨.none, rfl, wpAny_pure (h _ ?_)⟩))
    | refine wpAny_pure ⟨.none, rfl, wpAny_pure (h _ ?_)⟩
  show (List.filterMap _ items.toList.zipIdx).toArray = _
  exact congrArg List.toArray (cut_eq a items.toList 0 items.size (by simp))
/-- del xs[a:] -/
def tDelCut (to : TE) (tl : TO) : TS := fun D σ H => to σ H fun x H1 => tl σ H1 fun o H2 => ∃ (l : Addr) (xs : List V) (a : Nat), x = .ref l ∧ o = some (a : Int) ∧ H2 l = some (.lst xs) ∧ a ≤ xs.length ∧ D.nx σ (upd H2 l (.lst (xs.take a)))
theorem ps_delCut {X : Cx} {o : Expr} {lo : Option Expr} {to : TE} {tl : TO} {pos tpos p2 : Pos} (ho : PE X o to) (hl : PO X lo tl) : PS X (.Delete [.Subscript o (.Slice lo none none p2) tpos] pos) (tDelCut to tl) := by
  refine ⟨fun pins s σ H D I h => ?_⟩
  refine wpAny_Delete (wpAny_deleteEach_cons (wpAny_delete_Subscript (thn (ho.run pins s σ H _ I h) fun u s1 ⟨x, H1, I1, rx, q1⟩ => ?_)))
  refine wpAny_Slice (thn (hl.run pins s1 σ H1 _ I1 q1) fun vl s2 ⟨o, H2, I2, pl, q2⟩ => ?_)
  rw [evalPart_none]
  refine wpAny_pure (wpAny_pure ?_)
  obtain ⟨l, xs, a, rfl, rfl, hH, ha, q3⟩ := q2
  cases (show u = Value.ref l from rx)
  have I4 : Inv X pins σ H2 { s2 with heap := s2.heap.push { cls := .type "slice", data := .fields #[vl, .none, .none] } } := I2.kept (t' := s2.toks) fun b ob q => Heap.get?_push_of_some _ q
  obtain ⟨z, its, n, r, hl2, e⟩ := I4.lstM hH
  refine delItem_cut e (Heap.IsSliceOf.new ..) pl (by rw [List.size_toArray, ← hl2]; exact ha) (by rw [List.size_toArray, ← hl2]; exact z) fun f hf => wpAny_deleteEach_nil ⟨σ, _, I4.lset (its' := its.take a) (t' := s2.toks) hH e ?_ (r.take a) ?_, q3⟩
  · exact hf
  · rw [List.length_take]
    omega
end
end Bq
end

section
set_option maxRecDepth 100000
set_option maxHeartbeats 1000000
namespace Bq
open PySem PySem.Spec PyProof.Rows L2
/-! ### the module's tables -/
/-- a tuple of texts at a -/
def strsAt (K : PySem.W.Frag) (a : Addr) (ss : List Str) : Bool := match K.lookup a with
  | some ⟨.type c, _, .seq its _, _⟩ => decide (c = "tuple") && (decide (its.size ≤ sizeLine) && He.relAll (ss.map V.str) its.toList)
  | _ => false
theorem strsAt_ok {K : PySem.W.Frag} {a : Addr} {ss : List Str} (h : strsAt K a ss = true) (H : Hp) : SqT K H a (ss.map V.str) := by
  unfold strsAt at h
  cases q : K.lookup a with
  | none =>
    rw [q] at h
    cases h
  | some o =>
    obtain ⟨oc, od, dt, osl⟩ := o
    rw [q] at h
    cases oc with
    | type c =>
      cases dt with
      | seq its n =>
        obtain ⟨h1, h2⟩ := He.ba (show (decide (c = "tuple") && (decide (its.size ≤ sizeLine) && He.relAll (ss.map V.str) its.toList)) = true from h)
        obtain ⟨h3, h4⟩ := He.ba h2
        exact .inr ⟨_, its, n, q, congrArg Value.type (of_decide_eq_true h1), rfl, of_decide_eq_true h3, He.relAll_ok h4⟩
      | _ => cases h
    | _ => cases dt <;> cases h
def modTup (K : PySem.W.Frag) (x : Str) (ss : List Str) : Bool := strsAt K (He.ga K x) ss
theorem modTup_ok {K : PySem.W.Frag} {x : Str} {ss : List Str} (h : modTup K x ss = true) (H : Hp) : SqT K H (He.ga K x) (ss.map V.str) := strsAt_ok h H
def tabEnt (K : PySem.W.Frag) (d : Addr) (z : Str) : Option (List Str) → Bool
  | none => He.eqO (PySem.W.nsIn K d z) (some none)
  | some ss => match PySem.W.nsIn K d z with
    | some (some (.ref t)) => strsAt K t ss
    | _ => false
def modTab (K : PySem.W.Frag) (x : Str) (l : List (Str × Option (List Str))) : Bool := l.all fun p => tabEnt K (He.ga K x) p.1 p.2
theorem modTab_no {K : PySem.W.Frag} {x z : Str} {l : List (Str × Option (List Str))} (h : modTab K x l = true) (hz : (z, none) ∈ l) : PySem.W.nsIn K (He.ga K x) z = some none :=
  He.eqO_ok (List.all_eq_true.mp h _ hz)
theorem modTab_yes {K : PySem.W.Frag} {x z : Str} {ss : List Str} {l : List (Str × Option (List Str))} (h : modTab K x l = true) (hz : (z, some ss) ∈ l) : ∃ t, PySem.W.nsIn K (He.ga K x) z = some (some (.ref t)) ∧ ∀ H, SqT K H t (ss.map V.str) := by
  have h1 := List.all_eq_true.mp h _ hz
  simp only [tabEnt] at h1
  split at h1
  · rename_i t e
    exact ⟨t, e, fun H => strsAt_ok h1 H⟩
  · cases h1
/-- d[key], d a table of the module -/
def tKGet (K : PySem.W.Frag) (td ty : TE) : TE := fun σ H Q => td σ H fun x H1 => ty σ H1 fun y H2 => ∃ (d : Addr) (z : Str) (u0 : Value) (v0 : V), x = .ref d ∧ y = .str z ∧ PySem.W.nsIn K d z = some (some u0) ∧ RelV v0 u0 ∧ Q v0 H2
theorem pe_kget {X : Cx} {d : Addr} {o i : Expr} {pos p : Pos} {x : Str} {ty : TE} (hD : ∃ es n, KDict X.K X.w d es n) (hg : Gl X x) (hm : X.mg x = some (.ref d)) (hi : PE X i ty) (hs : NoSl i) (hdb : (x == ("__debug__" : Str)) = false := by decide) : PE X (.Subscript (.Name x p) i pos) (tKGet X.K (tC (.ref d)) ty) := by
  obtain ⟨es, n, D⟩ := hD
  refine ⟨fun pins s σ H Q I h => ?_⟩
  have ho : PE X (.Name x p) (tC (.ref d)) := pe_glob hg hm rfl (hd := hdb)
  refine subD_of PySem.F.slot_dict_getitem.lookup hs (thn (ho.run pins s σ H (fun x' H1 => x' = .ref d ∧ H1 = H) I ⟨rfl, rfl⟩) fun u s1 ⟨x1, H1, I1, rx, ex, eh⟩ => ?_)
  subst ex
  subst eh
  obtain rfl : u = Value.ref d := rx
  refine thn (hi.run pins s1 σ _ _ I1 h) fun iv s2 ⟨y, H2, I2, ry, d', z, u0, v0, ex, ey, e, r, q2⟩ => ?_
  obtain rfl : d = d' := by injection ex
  exact ⟨kd_type D I2, op_item_kd D pins s2 σ H2 (.ref d) y _ _ Q I2 rfl ry ⟨z, u0, v0, rfl, ey, e, r, q2⟩⟩
/-- x in d, d a table of the module -/
theorem op_in_mod {X : Cx} {d : Addr} (hD : ∃ es n, KDict X.K X.w d es n) : OpR X (compareOp .In) (fun x y H Q => ∃ (z : Str) (r : Option Value), x = .str z ∧ y = .ref d ∧ PySem.W.nsIn X.K d z = some r ∧ Q (.bl r.isSome) H) := by
  obtain ⟨es, n, D⟩ := hD
  exact op_in_kd D
theorem pe_iglob {X : Cx} {x : Str} {i : Int} {pos : Pos} (hg : Gl X x) (hm : ∃ t, X.mg x = some (.int i t)) (hdb : (x == ("__debug__" : Str)) = false := by decide) : PE X (.Name x pos) (tC (.int i)) := by
  obtain ⟨t, hm⟩ := hm
  exact pe_glob hg hm ⟨_, rfl⟩ (hd := hdb)
/-! ### own classes: their making, their methods -/
def Ini (P : Program) (w : World) (K : PySem.W.Frag) (mg : Str → Option Value) (base : Heap) (CX : CXT) (k : Nat) (x : Str) (ps : List Str) (sp : Sp) : Prop :=
  ∃ C f fd, FnOk P w K mg base CX k f fd ps sp ∧ Binds K fd ps [] ∧ Mk K C f ∧ mg x = some (.ref C)
def Mth (P : Program) (w : World) (K : PySem.W.Frag) (mg : Str → Option Value) (base : Heap) (CX : CXT) (k : Nat) (C : Addr) (m : Str) (ps : List Str) (sp : Sp) : Prop :=
  ∃ f fd, FnOk P w K mg base CX k f fd ps sp ∧ Binds K fd ps [] ∧ Meth K C m f
end Bq
end

section
set_option maxRecDepth 100000
set_option maxHeartbeats 1000000
namespace PySem
theorem meets_enumerate_newT (l : Addr) (o : Obj) (H : Heap → Prop) (B : Begins (.ref l) o H) :
    Meets (Builtin.«enumerate.__new__» ⟨[.type "enumerate", .ref l], []⟩) (fun _ R s => H s.heap ∧
      R (.ok (.ret (.ref (s.heap.push o).objs.size))) { s with heap := (s.heap.push o).push { cls := .type "enumerate", data := .fields #[.none, .bool false, .ref s.heap.objs.size, rawInt 0, .none, .none] } }) :=
  .of_wp fun prog w A R s h => by
    obtain ⟨hp, g, d, tk, os⟩ := s; obtain ⟨h1, h⟩ := h
    have hsub := sub_enumerate
    have q1 : ∀ {A' : Around} {E : Value → Shared → Prop} {Q : Value → Shared → Prop}, Q (.ref hp.objs.size) ⟨hp.push o, g, d, tk, os⟩ → wpAny (model prog w) A' (pyIter (.ref l)) Q E ⟨hp, g, d, tk, os⟩ :=
      fun q => B.iter prog w _ _ ⟨hp, g, d, tk, os⟩ _ h1 q
    wp_walk using q1
    refine wpAny_stack_any fun st => wpAny_pure ?_
    split
    · rename_i c _ _ _ _ _
      cases (c == Value.type "enumerate")
      · wp_walk using q1
        exact ⟨_, rfl, h⟩
      · wp_walk using q1
        exact ⟨_, rfl, h⟩
    · wp_walk using q1
      exact ⟨_, rfl, h⟩
theorem enum_begins1 {prog : Program} {w : World} {A : Around} {E : Value → Shared → Prop} {s : Shared} {l : Addr} {o : Obj} {H : Heap → Prop} {Q : Value → Shared → Prop} (B : Begins (.ref l) o H) (h1 : H s.heap)
    (h : ∀ h', IsEnum h' (s.heap.objs.size + 1) s.heap.objs.size 0 .none → h'.get? s.heap.objs.size = some o → h'.objs.size = s.heap.objs.size + 2 →
      (∀ b o, s.heap.get? b = some o → h'.get? b = some o) → Q (.ref (s.heap.objs.size + 1)) { s with heap := h' }) :
    wpAny (model prog w) A (call (.type "enumerate") [.ref l]) Q E s := by
  refine callType_new F.called_enumerate (by decide) (F.typeCall_enumerate_1 _) (F.newCall_enumerate_1 _) (fun obj => F.args_object_init_2 obj _) F.entry_enumerate_new
    (meets_enumerate_newT l o H B) ⟨h1, ?_⟩
  have hz : (s.heap.push o).objs.size = s.heap.objs.size + 1 := Heap.size_push ..
  show _ ∧ _
  rw [hz]
  have he : IsEnum ((s.heap.push o).push { cls := .type "enumerate", data := .fields #[.none, .bool false, .ref s.heap.objs.size, rawInt 0, .none, .none] }) (s.heap.objs.size + 1) s.heap.objs.size 0 .none := by
    have := Heap.get?_push_size (s.heap.push o) (o := { cls := .type "enumerate", data := .fields #[.none, .bool false, .ref s.heap.objs.size, rawInt 0, .none, .none] }) rfl
    rw [hz] at this; exact this
  refine ⟨⟨_, he, rfl⟩, h _ he (Heap.get?_push_of_some _ (Heap.get?_push_size _ B.free)) (by rw [Heap.size_push, hz]) fun b o x => Heap.get?_push_of_some _ (Heap.get?_push_of_some _ x)⟩
theorem enumT_end {prog : Program} {w : World} {A : Around} {E : Value → Shared → Prop} {s : Shared} {e it l : Addr} {i : Nat} {items : Array Value} {old : Value} {Q : Option Value → Shared → Prop} (hh : A.handled = none)
    (he : IsEnum s.heap e it i old) (hit : s.heap.IsTupleIter it l i) (hl : s.heap.IsTuple l items) (hx : items[i]? = none)
    (hQ : ∀ h', Heap.ExtBut it s.heap h' → Q none { s with heap := h' }) : wpAny (model prog w) A (pyNext (.ref e)) Q E s := by
  have hT : s.TypeIs (.ref e) "enumerate" := ⟨_, he, rfl⟩
  unfold pyNext
  refine wpAny_bind (wpAny_attempt (wpAny_callSpecial?_slot (name := Str.ofString "__next__") hT F.slot_enumerate_next
    (wpAny_call_entry F.slot_enumerate_next hT F.entry_enumerate_next ?_ (F.args_enumerate_next_1 _))))
  show wpAny _ _ (field (.ref e) 2 >>= _) _ _ _
  refine wpAny_bind (wpAny_field he rfl (x := .ref it) rfl ?_)
  refine wpAny_bind (wpAny_nextOf_tuple_end hh hit hl hx fun h' x he' hx' => ?_)
  obtain ⟨o, ho, hc⟩ := hx'
  refine wpAny_bind (wpAny_isInstance (T := "StopIteration") (b := true) ⟨o, ho, hc⟩ isSubtype_stop ?_)
  exact wpAny_pure (hQ _ he')
end PySem
namespace Bq
open PySem PySem.Spec PyProof.Rows L2
/-! ### enumerate(tuple) -/
def Iet (K : PySem.W.Frag) (a : Addr) : It :=
  ⟨fun i H => ∃ (xs : List V) (x : V), SqT K H a xs ∧ xs[i]? = some x, fun i H v H' => ∃ T x, v = .ref T ∧ H T = none ∧ H' = upd H T (.tup [.int (i : Nat), x]) ∧ ∀ xs, SqT K H a xs → xs[i]? = some x, fun i H => ∃ xs : List V, SqT K H a xs ∧ xs.length ≤ i⟩
theorem turn_enumT {P : Program} {w : World} {K : PySem.W.Frag} {elts : List Expr} {kk : Nat} {tpos : Pos} (a e it : Addr) :
    Turn P w K (.Tuple elts kk tpos) (Iet K a) [e, it] e (fun i h => (∃ old, IsEnum h e it ((i : Nat) : Int) old) ∧ h.IsTupleIter it a i ∧ e ≠ it ∧ a ≠ it ∧ a ≠ e) where
  mem := by simp
  obj := fun i h st b hb => by
    obtain ⟨⟨old, he⟩, ⟨o, ho, hc, hd⟩, _⟩ := st
    have e' : b = e ∨ b = it := by simpa using hb
    rcases e' with z | z
    · rw [z]; exact ⟨_, he, fun v q => nomatch q⟩
    · rw [z]; exact ⟨o, ho, fun v q => by rw [hd] at q; cases q⟩
  keep := fun i h h' st k => let ⟨⟨old, he⟩, hi, hr⟩ := st; ⟨⟨old, k e (by simp) _ he⟩, hi.at fun o q => k it (by simp) o q, hr⟩
  item := by
    intro X hP hw hK hc i pins s σ H E I hf st hg
    subst hP hw hK
    obtain ⟨⟨old, he⟩, hit, hne, hai, hae⟩ := st
    obtain ⟨xs, x, hq, hx⟩ := hg
    obtain ⟨its, rv, p, hz⟩ := I.tuple hq
    obtain ⟨u, hu, ru⟩ := rv.get hx
    have hel : e < s.heap.objs.size := Heap.lt_size he
    have hil : it < s.heap.objs.size := by obtain ⟨_, q, _⟩ := hit; exact Heap.lt_size q
    have pT : s.heap.IsTuple a its.toArray := p
    have hlt : i < its.toArray.size := by
      have := (List.getElem?_eq_some_iff.mp hu).1
      simpa using this
    refine wpAny_pyNext_enum_itemD (Draws.tuple (show X.A.in1.handled = none from I.ok.hd hc) it a hai its.toArray) he ⟨hit, pT⟩ hlt hne (by simp [hne, Ne.symm hae]) fun x' h' tk hP ho hs' hT hsz hk => ?_
    have ex : x' = u := by
      have h1 : its.toArray[i]? = some x' := hP
      rw [show its.toArray[i]? = some u by simpa using hu] at h1
      exact (Option.some.inj h1).symm
    subst ex
    refine ⟨_, rfl, wpAny_letOwnedTupleGo_enum (s := { s with heap := h', toks := tk + 1 }) ho fun h'' he' sb => ?_⟩
    have hT2 : h''.get? s.heap.objs.size = some { cls := .type "tuple", data := .seq #[.int i tk, x'] } := (sb.2 _ (Nat.ne_of_gt hel)).trans hT
    have new : ObjOk X.prog X.w (upd H s.heap.objs.size (.tup [.int (i : Nat), x])) h'' s.heap.objs.size (.tup [.int (i : Nat), x]) :=
      ⟨by show 2 ≤ sizeLine; decide, [.int i tk, x'], .cons ⟨_, rfl⟩ (.cons ru .nil), ⟨_, hT2, rfl, _, rfl⟩⟩
    have kk : ∀ b ob, b ∉ [e, it] → s.heap.get? b = some ob → h''.get? b = some ob := fun b ob hb q => (sb.2 b (fun z => hb (by simp [z]))).trans (hk b ob (fun z => hb (by simp [z])) (fun z => hb (by simp [z])) q)
    have I1 : Inv X pins σ (upd H s.heap.objs.size (.tup [.int (i : Nat), x])) { s with heap := h'', toks := tk + 1 } :=
      I.turnedNew (ch := [e, it]) kk hf (Nat.le_refl _) new
    refine ⟨.ref s.heap.objs.size, _, I1, rfl, ⟨_, x, rfl, I.hok.fresh (Nat.le_refl _), rfl, fun ys hy => by rw [I.tuple_inj hy hq]; exact hx⟩, ⟨⟨x', ?_⟩, hs'.1.at fun o q => (sb.2 it (Ne.symm hne)).trans q, hne, hai, hae⟩, fun b hb => ?_⟩
    · have e1 : ((i + 1 : Nat) : Int) = (i : Int) + 1 := by omega
      rw [e1]; exact he'
    · have hb' : b < s.heap.objs.size := by
        have e' : b = e ∨ b = it := by simpa using hb
        rcases e' with z | z
        · rw [z]; exact hel
        · rw [z]; exact hil
      rw [upd_ne (Nat.ne_of_lt hb')]
      exact (hf b hb).1
  done := by
    intro X hP hw hK hc i pins s σ H E I hf st hg
    subst hP hw hK
    obtain ⟨⟨old, he⟩, hit, hne, hai, hae⟩ := st
    obtain ⟨xs, hq, hx⟩ := hg
    obtain ⟨its, rv, p, hz⟩ := I.tuple hq
    obtain ⟨f0, f1, f2, f3, f4, f5⟩ := hf it (by simp)
    have hl := rv.length
    exact enumT_end (I.ok.hd hc) he hit (show s.heap.IsTuple a its.toArray from p) (by simp; omega) fun h' eb => ⟨rfl, I.turned (t' := s.toks) (fun b o hb q => eb b o hb q) f0 f1 f3 f4 f5⟩
  self := fun A i s Q E st h => let ⟨⟨_, he⟩, _⟩ := st; wpAny_pyIter_enum he h
def iEnumA (K : PySem.W.Frag) (ta : TA) : TI := fun σ H R => ta σ H fun vs H1 => ∃ a xs, vs = [.ref a] ∧ SqT K H1 a xs ∧ R (Iet K a) H1
theorem pi_enumA {X : Cx} {e : Expr} {ta : TA} {p pos tpos : Pos} {elts : List Expr} {kk : Nat} (hg : Gl X "enumerate") (hm : X.mg "enumerate" = none) (ha : PA X [e] ta) (hs : starEach [e] X.env = [(false, eval e X.env)] := by rfl) :
    PI X (.Tuple elts kk tpos) (.Call (.Name "enumerate" p) [e] [] pos) (iEnumA X.K ta) := by
  refine ⟨fun pins s σ H R I h => ?_⟩
  refine Call_ (ld_blt I hg hm boot_enumerate (PyProof.Rows.callWith_type1 (thn (ha.run pos pins s σ H _ I h) fun us s1 ⟨vs, H1, I1, r1, q1⟩ => ?_) hs rfl))
  obtain ⟨a, xs, ex, hq, q⟩ := q1
  subst ex
  cases r1 with
  | cons r rr =>
    cases rr
    cases r
    obtain ⟨its, rv, p', hz⟩ := I1.tuple hq
    have pT : s1.heap.IsTuple a its.toArray := p'
    obtain ⟨oa, hoa, _⟩ := id pT
    have ha' := Heap.lt_size hoa
    refine enum_begins1 (begins_tuple a its.toArray) pT fun h' he hit hsz hk => wpAny_pyIter_enum he ?_
    have I2 : Inv X pins σ H1 { s1 with heap := h' } := I1.kept (t' := s1.toks) hk
    refine ⟨s1.heap.objs.size + 1, [s1.heap.objs.size + 1, s1.heap.objs.size], _, _, H1, rfl, I2, turn_enumT a (s1.heap.objs.size + 1) s1.heap.objs.size, ⟨⟨.none, he⟩, ⟨_, hit, rfl, rfl⟩, Nat.succ_ne_self _, Nat.ne_of_lt ha', Nat.ne_of_lt (Nat.lt_succ_of_lt ha')⟩, fun b hb => ?_, q⟩
    have e' : b = s1.heap.objs.size + 1 ∨ b = s1.heap.objs.size := by simpa using hb
    have hle : s1.heap.objs.size ≤ b := by
      rcases e' with z | z
      · rw [z]; exact Nat.le_add_right _ _
      · rw [z]; exact Nat.le_refl _
    exact I1.fpOk hle (I1.hok.fresh hle)
/-- the turns of enumerate over a tuple that stands -/
theorem for_enumT {K : PySem.W.Frag} {a : Addr} {xs : List V} {g : TG} {tb : TS} {D : Ends} {σ : L2.St} {H : Hp} (Pv : Nat → L2.St → Hp → Prop) (h0 : Pv 0 σ H) (hT : ∀ i σ H, Pv i σ H → SqT K H a xs)
    (hs : ∀ i x σ H T, xs[i]? = some x → Pv i σ H → H T = none → g (.ref T) σ (upd H T (.tup [.int (i : Nat), x])) fun σ2 H2 => tb { D with nx := Pv (i + 1), ct := Pv (i + 1), bk := D.nx } σ2 H2) (hd : ∀ σ H, Pv xs.length σ H → D.nx σ H) :
    ∃ W : Nat → Nat → L2.St → Hp → Prop, (∃ m, W 0 m σ H) ∧ ∀ i m σ H, W i m σ H →
      ((Iet K a).stop i H ∧ D.nx σ H) ∨ ((Iet K a).go i H ∧ ∃ N : L2.St → Hp → Prop, (∀ σ' H', N σ' H' → ∃ m', m' < m ∧ W (i + 1) m' σ' H') ∧ ∀ x H', (Iet K a).yld i H x H' → g x σ H' fun σ2 H2 => tb { D with nx := N, ct := N, bk := D.nx } σ2 H2) := by
  refine ⟨fun i m σ H => m = xs.length - i ∧ i ≤ xs.length ∧ Pv i σ H, ⟨xs.length, by simp, Nat.zero_le _, h0⟩, ?_⟩
  rintro i m σ H ⟨rfl, hi, p⟩
  by_cases hlt : i < xs.length
  · have hx : xs[i]? = some xs[i] := List.getElem?_eq_getElem hlt
    refine .inr ⟨⟨xs, _, hT i σ H p, hx⟩, Pv (i + 1), fun σ' H' p' => ⟨xs.length - (i + 1), by omega, rfl, hlt, p'⟩, fun x H' y => ?_⟩
    obtain ⟨T, z, e, hn, e2, q⟩ := y
    subst e e2
    have := q xs (hT i σ H p)
    rw [hx] at this
    cases this
    exact hs i _ σ H T hx p hn
  · have e : i = xs.length := by omega
    subst e
    exact .inl ⟨⟨xs, hT _ σ H p, Nat.le_refl _⟩, hd σ H p⟩
end Bq
end

section
set_option maxRecDepth 100000
set_option maxHeartbeats 1000000
namespace Bq
open PySem PySem.Spec PyProof.Rows L2
/-! ### xs[:] = ys -/
section
variable {prog : Program} {w : World} {A : Around} {E : Value → Shared → Prop} {s : Shared}
theorem bounds_all {n : Nat} : sliceBounds none none none n = (0, (n : Int), 1) := by
  simp only [sliceBounds, Option.getD_none, show (1 : Int) > 0 by decide, if_true]
theorem upd_all {M : Model} {l : Addr} {items new : Array Value} {n : Nat} {f : Array Value → Array Value} {Q : Unit → Shared → Prop} (hf : f items = new) (hsz : items.size ≤ sizeLine) (hn : new.size ≤ sizeLine)
    (e : s.heap.get? l = some { cls := .type "list", data := .seq items n }) (h : Q () { s with heap := s.heap.update l (Obj.mapSeq f) }) : wpAny M A (updateSeq l f) Q E s :=
  wpAny_updateSeq (hz := hsz) (_hz' := by rw [hf]; omega) e rfl h
theorem setItem_all {l sl p : Addr} {items new : Array Value} {n m : Nat} {Q : Unit → Shared → Prop}
    (e : s.heap.get? l = some { cls := .type "list", data := .seq items n }) (hs : s.heap.IsSliceOf sl .none .none .none) (ep : s.heap.get? p = some { cls := .type "list", data := .seq new m }) (hsz : items.size + new.size ≤ sizeLine) (ne : l ≠ p)
    (h : ∀ f : Array Value → Array Value, f items = new → Q () { s with heap := s.heap.update l (Obj.mapSeq f) }) :
    wpAny (model prog w) A (setItem (.ref l) (.ref sl) (.ref p)) Q E s := by
  have hl : s.heap.IsList l items := PySem.IsL.isList e
  have hp : s.heap.IsList p new := PySem.IsL.isList ep
  obtain ⟨os, hos, hcs, hds⟩ := id hs
  have hTs : s.TypeIs (.ref sl) "slice" := ⟨os, hos, hcs⟩
  have hstep : ¬ ((rawPart none == rawInt 0) = true) := Bool.false_ne_true
  unfold setItem
  try with_reducible refine wpAny_holding ?_
  first | refine wpAny_bind (wpAny_pure ?_) | skip
  refine wpAny_bind (wpAny_sequenceKey hl.typeIs (by decide) ?_)
  refine wpAny_bind (wpAny_callSpecial?_slot (name := Str.ofString "__setitem__") hl.typeIs F.slot_list_setitem
    (wpAny_call_entry F.slot_list_setitem hl.typeIs F.entry_list_setitem ?_ (F.args_list_setitem_3 _ _ _)))
  show wpAny _ _ (Builtin.List.listSubscript? (.ref sl) >>= _) _ _ s
  refine wpAny_bind ?_
  unfold Builtin.List.listSubscript?
  refine wpAny_bind (wpAny_specialOf hTs slice_no_index ?_)
  simp only [Option.isNone_none, if_true]
  refine wpAny_pure ?_
  show wpAny _ _ (typeOf (.ref sl) >>= _) _ _ s
  refine wpAny_bind (wpAny_typeOf hTs ?_)
  first
    | rw [if_neg (by decide)]
    | refine PySem.W.KFB.if_not (by decide) ?_
  rw [listSliceParts_eq]
  refine wpAny_bind (wpAny_bind (wpAny_field hos hds (x := .none) rfl (wpAny_bind (wpAny_listPart .none ?_))))
  rw [if_neg hstep]
  refine wpAny_bind (wpAny_field hos hds (x := .none) rfl (wpAny_bind (wpAny_listPart .none ?_)))
  refine wpAny_bind (wpAny_field hos hds (x := .none) rfl (wpAny_bind (wpAny_listPart .none (wpAny_pure ?_))))
  have hsame : ¬ (Builtin.List.listSameRef (Value.ref l) (Value.ref p) = true) := by
    intro z
    unfold Builtin.List.listSameRef at z
    simp at z
    exact ne z
  rw [if_neg hsame]
  unfold Builtin.List.listAllItems
  refine wpAny_bind (wpAny_bind (wpAny_typeOf hp.typeIs ?_))
  rw [if_pos (by decide)]
  unfold Builtin.List.listItems
  refine wpAny_bind (wpAny_seqItems ep rfl (wpAny_pure ?_))
  refine wpAny_bind (wpAny_bind (wpAny_seqItems e rfl (wpAny_pure ?_)))
  refine wpAny_bind (wpAny_of_eq ((sliceIndices_raw none none none items.size (by simp)).trans (congrArg (pure : Int × Int × Int → Sem (Int × Int × Int)) bounds_all)) ?_)
  rw [if_pos (by rfl)]
  refine wpAny_bind (wpAny_rule ?_)
  rw [if_neg (by unfold Builtin.List.listTooLong; simp; omega)]
  refine wpAny_bind (m := updateSeq l _) ?_
  have hf : items.extract 0 ((0 : Int), (items.size : Int), (1 : Int)).fst.toNat ++ new ++ items.extract (max ((0 : Int), (items.size : Int), (1 : Int)).fst ((0 : Int), (items.size : Int), (1 : Int)).2.fst).toNat = new := by
    have h1 : (max ((0 : Int), (items.size : Int), (1 : Int)).fst ((0 : Int), (items.size : Int), (1 : Int)).2.fst).toNat = items.size := by
      show (max (0 : Int) (items.size : Int)).toNat = _
      omega
    rw [h1]
    show items.extract 0 0 ++ new ++ items.extract items.size items.size = new
    simp
  refine upd_all (new := new) hf (by omega) (by omega) e ?_
  refine wpAny_bind (wpAny_letGo ?_)
  first
    | refine wpAny_pure ⟨.none, rfl, wpAny_pure (h _ hf)⟩
    | refine wpAny_bind (wpAny_pure (wpAny_pure ⟨.none, rfl, wpAny_pure (h _ hf)⟩))
end
/-- xs[:] = a list -/
def gAll (K : PySem.W.Frag) (to : TE) : TG := fun v σ H Q => to σ H fun x H1 => ∃ (l p : Addr) (xs ys : List V), x = .ref l ∧ v = .ref p ∧ H1 l = some (.lst xs) ∧ H1 p = some (.lst ys) ∧ l ≠ p ∧ xs.length + ys.length ≤ sizeLine ∧ Q σ (upd H1 l (.lst ys))
theorem pg_all {X : Cx} {o : Expr} {to : TE} {pos p2 : Pos} (ho : PE X o to) : PG X (.Subscript o (.Slice none none none p2) pos) (gAll X.K to) := by
  refine ⟨fun pins s σ H v u Q I r h => ?_⟩
  show wpAny (model X.prog X.w) X.A (do
      let ov ← holding [u] (eval o X.env)
      let iv ← holding [u, ov] (eval (.Slice none none none p2) X.env)
      standAt pos
      holding [u, ov, iv] (setItem ov iv u)
      release [iv, u, ov] []) _ _ s
  refine wpAny_bind (wpAny_holding (thn (ho.run pins s σ H _ I h) fun ov s1 ⟨x, H1, I1, r1, q1⟩ => ?_))
  refine wpAny_bind (wpAny_holding (wpAny_Slice ?_))
  rw [evalPart_none]
  refine wpAny_pure (wpAny_pure (wpAny_pure ?_))
  obtain ⟨l, p, xs, ys, rfl, rfl, hl, hp, ne, hz, q⟩ := q1
  cases (show ov = Value.ref l from r1)
  cases (show u = Value.ref p from r)
  have I4 : Inv X pins σ H1 { s1 with heap := s1.heap.push { cls := .type "slice", data := .fields #[.none, .none, .none] } } := I1.kept (t' := s1.toks) fun b ob q => Heap.get?_push_of_some _ q
  obtain ⟨z, its, n, rv, hl2, e⟩ := I4.lstM hl
  obtain ⟨z2, its2, n2, rv2, hl3, e2⟩ := I4.lstM hp
  refine wpAny_bind (wpAny_standAt (wpAny_bind (wpAny_holding (setItem_all e (Heap.IsSliceOf.new ..) e2 (by rw [List.size_toArray, List.size_toArray, ← hl2, ← hl3]; exact hz) ne fun f hf => ?_))))
  exact wpAny_release ⟨σ, _, I4.lset (its' := its2) (t' := s1.toks) hl e hf rv2 z2, q⟩
end Bq
end

section
set_option maxRecDepth 100000
set_option maxHeartbeats 1000000
namespace Bq
open PySem PySem.Spec PyProof.Rows L2
/-! ### what is one's own in the heap -/
structure Own (K : PySem.W.Frag) (H0 H : Hp) (S : List (Addr × HO)) : Prop where
  c : Ch K [] H0 H
  h : ∀ p ∈ S, H p.1 = some p.2
  f : ∀ p ∈ S, H0 p.1 = none
  nd : (S.map (·.1)).Nodup
section
variable {K : PySem.W.Frag} {H0 H H' : Hp} {S S' l1 l2 : List (Addr × HO)} {a p : Addr} {o u : HO}
theorem Own.ch (w : Own K H0 H S) (c : Ch K [] H H') : Own K H0 H' S := ⟨w.c.trans c, fun p hp => c.up _ _ (w.h p hp) (by simp), w.f, w.nd⟩
theorem Own.sub (w : Own K H0 H S) (h : S'.Sublist S) : Own K H0 H S' := ⟨w.c, fun p hp => w.h p (h.subset hp), fun p hp => w.f p (h.subset hp), w.nd.sublist (h.map _)⟩
theorem Own.perm (w : Own K H0 H S) (h : S.Perm S') : Own K H0 H S' := ⟨w.c, fun p hp => w.h p (h.mem_iff.mpr hp), fun p hp => w.f p (h.mem_iff.mpr hp), (h.map _).nodup_iff.mp w.nd⟩
theorem Own.new (w : Own K H0 H S) (n : H p = none) (c : Ch K [] H H') (e : H' p = some o) : Own K H0 H' ((p, o) :: S) := by
  refine ⟨w.c.trans c, fun q hq => ?_, fun q hq => ?_, ?_⟩
  · rcases List.mem_cons.mp hq with rfl | hq
    · exact e
    · exact c.up _ _ (w.h q hq) (by simp)
  · rcases List.mem_cons.mp hq with rfl | hq
    · exact w.c.free n (by simp)
    · exact w.f q hq
  · rw [List.map_cons, List.nodup_cons]
    refine ⟨fun hm => ?_, w.nd⟩
    obtain ⟨q, hq, e2⟩ := List.mem_map.mp hm
    have := w.h q hq
    rw [e2, n] at this
    cases this
theorem Own.set (w : Own K H0 H (l1 ++ (a, u) :: l2)) (c : Ch K [a] H H') (e : H' a = some o) : Own K H0 H' (l1 ++ (a, o) :: l2) := by
  have nd := w.nd
  rw [List.map_append, List.map_cons] at nd
  have na : ∀ q ∈ l1 ++ l2, q.1 ≠ a := fun q hq z => by
    have h1 := (List.nodup_append.mp nd).2.1
    have h2 := (List.nodup_append.mp nd).2.2
    rcases List.mem_append.mp hq with hq | hq
    · exact h2 q.1 (List.mem_map.mpr ⟨q, hq, rfl⟩) a (List.mem_cons_self ..) z
    · exact (List.nodup_cons.mp h1).1 (List.mem_map.mpr ⟨q, hq, z⟩)
  refine ⟨⟨fun b o' h n => c.up _ _ (w.c.up _ _ h n) (fun z => ?_), w.c.kt.trans c.kt⟩, fun q hq => ?_, fun q hq => ?_, ?_⟩
  · have hb : b = a := by simpa using z
    have := w.f (a, u) (by simp)
    rw [hb] at h
    rw [h] at this
    cases this
  · by_cases hqa : q = (a, o)
    · rw [hqa]; exact e
    · have hq' : q ∈ l1 ++ l2 := by
        rcases List.mem_append.mp hq with h | h
        · exact List.mem_append.mpr (.inl h)
        · rcases List.mem_cons.mp h with h | h
          · exact absurd h hqa
          · exact List.mem_append.mpr (.inr h)
      refine c.up _ _ (w.h q ?_) (by simpa using na q hq')
      rcases List.mem_append.mp hq' with h | h
      · exact List.mem_append.mpr (.inl h)
      · exact List.mem_append.mpr (.inr (List.mem_cons_of_mem _ h))
  · by_cases hqa : q = (a, o)
    · rw [hqa]; exact w.f (a, u) (by simp)
    · refine w.f q ?_
      rcases List.mem_append.mp hq with h | h
      · exact List.mem_append.mpr (.inl h)
      · rcases List.mem_cons.mp h with h | h
        · exact absurd h hqa
        · exact List.mem_append.mpr (.inr (List.mem_cons_of_mem _ h))
  · rw [List.map_append, List.map_cons]
    exact nd
theorem Own.wr (w : Own K H0 H (l1 ++ (a, u) :: l2)) (ht : notT u = true) : Own K H0 (upd H a o) (l1 ++ (a, o) :: l2) := w.set (Ch.wr (w.h (a, u) (by simp)) ht (by simp)) upd_same
theorem Own.at_ (w : Own K H0 H (l1 ++ (a, u) :: l2)) : H a = some u := w.h (a, u) (by simp)
end
end Bq
end

section
namespace Fl
/-! ### links, steps, heights: what is reckoned -/
structure Lnk where
  lo : Nat
  up : Nat
  ri : Int
structure Stp where
  st : Nat
  en : Nat
  ri : Int
  lk : Nat
  ch : Int
def fupd {α : Type} (f : Nat → α) (i : Nat) (x : α) : Nat → α := fun j => if j = i then x else f j
theorem fupd_same {α : Type} {f : Nat → α} {i : Nat} {x : α} : fupd f i x i = x := by simp [fupd]
theorem fupd_ne {α : Type} {f : Nat → α} {i j : Nat} {x : α} (h : j ≠ i) : fupd f i x j = f j := by simp [fupd, h]
/-- one step back -/
def nx (S : List Stp) (cb : Nat → Option Nat) (v : Nat) : Option Nat := (cb v).bind fun k => S[k]?.map Stp.st
def it (S : List Stp) (cb : Nat → Option Nat) : Nat → Nat → Option Nat
  | 0, v => some v
  | m + 1, v => (nx S cb v).bind (it S cb m)
section
variable {S : List Stp} {cb cb' : Nat → Option Nat} {n : Nat}
theorem it_add : ∀ (a b v : Nat), it S cb (a + b) v = (it S cb a v).bind (it S cb b)
  | 0, b, v => by simp [it]
  | a + 1, b, v => by
    rw [Nat.succ_add]
    simp only [it]
    cases h : nx S cb v with
    | none => rfl
    | some u =>
      simp only [Option.bind_some]
      exact it_add a b u
theorem it_one (v : Nat) : it S cb 1 v = nx S cb v := by
  simp only [it]
  cases nx S cb v <;> rfl
theorem it_succ (m v : Nat) : it S cb (m + 1) v = (it S cb m v).bind (nx S cb) := by
  rw [it_add m 1 v]
  congr 1
  funext u
  exact it_one u
theorem it_le {a b v : Nat} (h : a ≤ b) (d : it S cb b v ≠ none) : it S cb a v ≠ none := by
  obtain ⟨c, rfl⟩ := Nat.exists_eq_add_of_le h
  rw [it_add] at d
  intro e
  rw [e] at d
  exact d rfl
end
theorem nodup_len : ∀ (n : Nat) (l : List Nat), l.Nodup → (∀ x ∈ l, x < n) → l.length ≤ n
  | 0, [], _, _ => Nat.le_refl _
  | 0, x :: r, _, h => absurd (h x (by simp)) (Nat.not_lt_zero _)
  | n + 1, l, nd, h => by
    by_cases hn : n ∈ l
    · have h1 := nodup_len n (l.erase n) (nd.erase n) fun x hx => by
        have h2 := (List.Nodup.mem_erase_iff nd).mp hx
        have h3 := h x h2.2
        have := h2.1
        omega
      rw [List.length_erase_of_mem hn] at h1
      omega
    · have h1 := nodup_len n l nd fun x hx => by
        have h3 := h x hx
        have : x ≠ n := fun e => hn (e ▸ hx)
        omega
      omega
theorem least_nat {P : Nat → Prop} (h : ∃ m, P m) : ∃ m, P m ∧ ∀ k, k < m → ¬ P k := by
  obtain ⟨m, hm⟩ := h
  induction m using Nat.strongRecOn with
  | _ m ih =>
    by_cases hk : ∃ k, k < m ∧ P k
    · obtain ⟨k, h1, h2⟩ := hk
      exact ih k h1 h2
    · exact ⟨m, hm, fun k h1 h2 => hk ⟨k, h1, h2⟩⟩
/-- all steps are between places of n, none to itself -/
def Okst (n : Nat) (S : List Stp) : Prop := ∀ s ∈ S, s.st < n ∧ s.en < n ∧ s.st ≠ s.en
/-- where a climb stands: pass p, j steps of it done -/
structure CI (n : Nat) (S : List Stp) (p j : Nat) (h : Nat → Int) (cb : Nat → Option Nat) (rs : Option Nat) : Prop where
  t : ∃ t : Nat → Nat, (∀ v, t v ≤ p) ∧ (∀ v, it S cb (t v) v ≠ none) ∧ (∀ (k : Nat) (s : Stp), S[k]? = some s → k < j → p ≤ t s.st ∨ h s.st + s.ri ≤ h s.en) ∧ (∀ (k : Nat) (s : Stp), S[k]? = some s → p ≤ t s.st + 1 ∨ h s.st + s.ri ≤ h s.en) ∧ ∀ e, rs = some e → t e = p
  pos : ∀ v, 0 ≤ h v
  low : ∀ x : Nat → Int, (∀ v, 0 ≤ x v) → (∀ s ∈ S, x s.st + s.ri ≤ x s.en) → ∀ v, h v ≤ x v
  cbok : ∀ v k, cb v = some k → ∃ s : Stp, S[k]? = some s ∧ s.en = v ∧ h v ≤ h s.st + s.ri
  cyc : ∀ v m, 0 < m → it S cb m v = some v → ∃ (i u k : Nat) (s : Stp), i < m ∧ it S cb i v = some u ∧ cb u = some k ∧ S[k]? = some s ∧ h u < h s.st + s.ri
  rok : ∀ e, rs = some e → e < n
  rnone : rs = none → ∀ (k : Nat) (s : Stp), S[k]? = some s → k < j → h s.st + s.ri ≤ h s.en
section
variable {n p j : Nat} {S : List Stp} {h : Nat → Int} {cb : Nat → Option Nat} {rs : Option Nat} {s : Stp}
theorem CI.start : CI n S 1 0 (fun _ => 0) (fun _ => none) none := by
  refine ⟨⟨fun _ => 0, by simp, by simp [it], by simp, by simp, by simp⟩, by simp, fun x h1 _ v => h1 v, by simp, ?_, by simp, by simp⟩
  intro v m hm e
  cases m with
  | zero => omega
  | succ m => simp [it, nx] at e
theorem CI.pass (c : CI n S p S.length h cb rs) : CI n S (p + 1) 0 h cb none := by
  obtain ⟨⟨t, t1, t2, t3, t4, t5⟩, pos, low, cbok, cyc, rok, rnone⟩ := c
  refine ⟨⟨t, fun v => Nat.le_succ_of_le (t1 v), t2, by simp, fun k s hk => ?_, by simp⟩, pos, low, cbok, cyc, by simp, by simp⟩
  rcases t3 k s hk (List.getElem?_eq_some_iff.mp hk).1 with h | h
  · exact .inl (by omega)
  · exact .inr h
theorem CI.stay (c : CI n S p j h cb rs) (hs : S[j]? = some s) (ok : h s.st + s.ri ≤ h s.en) : CI n S p (j + 1) h cb rs := by
  obtain ⟨⟨t, t1, t2, t3, t4, t5⟩, pos, low, cbok, cyc, rok, rnone⟩ := c
  refine ⟨⟨t, t1, t2, fun k s' hk hj => ?_, t4, t5⟩, pos, low, cbok, cyc, rok, fun e k s' hk hj => ?_⟩
  · by_cases e : k = j
    · subst e
      rw [hs] at hk
      cases hk
      exact .inr ok
    · exact t3 k s' hk (by omega)
  · by_cases e2 : k = j
    · subst e2
      rw [hs] at hk
      cases hk
      exact ok
    · exact rnone e k s' hk (by omega)
theorem it_avoid {cb cb' : Nat → Option Nat} {e : Nat} (hc : ∀ v, v ≠ e → cb' v = cb v) : ∀ (m v : Nat), (∀ i, i < m → it S cb' i v ≠ some e) → it S cb' m v = it S cb m v
  | 0, v, _ => rfl
  | m + 1, v, h => by
    have hv : v ≠ e := fun z => h 0 (by omega) (by rw [z]; rfl)
    simp only [it]
    have e1 : nx S cb' v = nx S cb v := by simp only [nx, hc v hv]
    rw [e1]
    cases q : nx S cb v with
    | none => rfl
    | some u =>
      simp only [Option.bind_some]
      refine it_avoid hc m u fun i hi z => h (i + 1) (by omega) ?_
      simp only [it, e1, q, Option.bind_some]
      exact z
theorem CI.rise (o : Okst n S) (hp : 0 < p) (c : CI n S p j h cb rs) (hs : S[j]? = some s) (ri : h s.en < h s.st + s.ri) : CI n S p (j + 1) (fupd h s.en (h s.st + s.ri)) (fupd cb s.en (some j)) (some s.en) := by
  obtain ⟨⟨t, t1, t2, t3, t4, t5⟩, pos, low, cbok, cyc, rok, rnone⟩ := c
  have os := o s (List.mem_of_getElem? hs)
  have hle : ∀ v, h v ≤ fupd h s.en (h s.st + s.ri) v := by
    intro v
    unfold fupd
    split
    · rename_i e; subst e; omega
    · omega
  have hst : fupd h s.en (h s.st + s.ri) s.st = h s.st := fupd_ne os.2.2
  have ts : p ≤ t s.st + 1 := by
    rcases t4 j s hs with h1 | h1
    · exact h1
    · omega
  -- depth
  have dep : ∀ k, k ≤ p → ∀ v, (it S cb k v ≠ none ∨ v = s.en) → it S (fupd cb s.en (some j)) k v ≠ none := by
    intro k
    induction k with
    | zero => intro _ v _; simp [it]
    | succ k ih =>
      intro hk v hv
      by_cases e : v = s.en
      · subst e
        have e1 : nx S (fupd cb s.en (some j)) s.en = some s.st := by
          simp only [nx, fupd_same, Option.bind_some, hs, Option.map_some]
        simp only [it, e1, Option.bind_some]
        exact ih (by omega) s.st (.inl (it_le (by omega) (t2 s.st)))
      · have e1 : nx S (fupd cb s.en (some j)) v = nx S cb v := by simp only [nx, fupd_ne e]
        have hv' : it S cb (k + 1) v ≠ none := by
          rcases hv with h1 | h1
          · exact h1
          · exact (e h1).elim
        simp only [it, e1] at hv' ⊢
        cases q : nx S cb v with
        | none => rw [q] at hv'; exact (hv' rfl).elim
        | some u =>
          rw [q] at hv'
          simp only [Option.bind_some] at hv' ⊢
          exact ih (by omega) u (.inl hv')
  have ok_mono : ∀ s' : Stp, s'.st ≠ s.en → h s'.st + s'.ri ≤ h s'.en → fupd h s.en (h s.st + s.ri) s'.st + s'.ri ≤ fupd h s.en (h s.st + s.ri) s'.en := by
    intro s' h1 h2
    rw [fupd_ne h1]
    have := hle s'.en
    omega
  refine ⟨⟨fupd t s.en p, ?_, ?_, ?_, ?_, ?_⟩, ?_, ?_, ?_, ?_, ?_, by simp⟩
  · intro v
    unfold fupd
    split
    · exact Nat.le_refl _
    · exact t1 v
  · intro v
    by_cases e : v = s.en
    · subst e
      rw [fupd_same]
      exact dep p (Nat.le_refl _) _ (.inr rfl)
    · rw [fupd_ne e]
      exact dep (t v) (t1 v) v (.inl (t2 v))
  · intro k s' hk hj
    by_cases e : s'.st = s.en
    · rw [e, fupd_same]
      exact .inl (Nat.le_refl _)
    · by_cases e2 : k = j
      · subst e2
        rw [hs] at hk
        cases hk
        rw [hst, fupd_same]
        exact .inr (Int.le_refl _)
      · rcases t3 k s' hk (by omega) with h1 | h1
        · rw [fupd_ne e]
          exact .inl h1
        · exact .inr (ok_mono s' e h1)
  · intro k s' hk
    by_cases e : s'.st = s.en
    · rw [e, fupd_same]
      exact .inl (by omega)
    · rcases t4 k s' hk with h1 | h1
      · rw [fupd_ne e]
        exact .inl h1
      · exact .inr (ok_mono s' e h1)
  · intro e he
    cases he
    exact fupd_same
  · intro v
    exact Int.le_trans (pos v) (hle v)
  · intro x x1 x2 v
    by_cases e : v = s.en
    · subst e
      rw [fupd_same]
      have h1 := low x x1 x2 s.st
      have h2 := x2 s (List.mem_of_getElem? hs)
      omega
    · rw [fupd_ne e]
      exact low x x1 x2 v
  · intro v k hk
    by_cases e : v = s.en
    · subst e
      rw [fupd_same] at hk
      cases hk
      exact ⟨s, hs, rfl, by rw [fupd_same, hst]; exact Int.le_refl _⟩
    · rw [fupd_ne e] at hk
      obtain ⟨s', h1, h2, h3⟩ := cbok v k hk
      refine ⟨s', h1, h2, ?_⟩
      rw [fupd_ne e]
      have := hle s'.st
      omega
  · intro v m hm hv
    by_cases hx : ∃ i, i < m ∧ it S (fupd cb s.en (some j)) i v = some s.en
    · obtain ⟨i, hi, ei⟩ := hx
      -- the place that is reached from s.en
      obtain ⟨i', u, hi', eu, nu⟩ : ∃ i' u, i' < m ∧ it S (fupd cb s.en (some j)) i' v = some u ∧ nx S (fupd cb s.en (some j)) u = some s.en := by
        cases i with
        | zero =>
          have e0 : v = s.en := by simpa [it] using ei
          obtain ⟨m', rfl⟩ : ∃ m', m = m' + 1 := ⟨m - 1, by omega⟩
          rw [it_succ] at hv
          cases q : it S (fupd cb s.en (some j)) m' v with
          | none => rw [q] at hv; cases hv
          | some u =>
            rw [q] at hv
            simp only [Option.bind_some] at hv
            exact ⟨m', u, by omega, q, by rw [hv, e0]⟩
        | succ i =>
          rw [it_succ] at ei
          cases q : it S (fupd cb s.en (some j)) i v with
          | none => rw [q] at ei; cases ei
          | some u =>
            rw [q] at ei
            simp only [Option.bind_some] at ei
            exact ⟨i, u, by omega, q, ei⟩
      cases q : fupd cb s.en (some j) u with
      | none => simp [nx, q] at nu
      | some k =>
        simp only [nx, q, Option.bind_some] at nu
        cases qs : S[k]? with
        | none => rw [qs] at nu; cases nu
        | some s' =>
          rw [qs] at nu
          simp only [Option.map_some, Option.some.injEq] at nu
          have hu : u ≠ s.en := by
            intro e
            subst e
            rw [fupd_same] at q
            cases q
            rw [hs] at qs
            cases qs
            exact os.2.2 nu
          have q' := q
          rw [fupd_ne hu] at q'
          obtain ⟨s2, h1, h2, h3⟩ := cbok u k q'
          rw [qs] at h1
          cases h1
          refine ⟨i', u, k, s', hi', eu, q, qs, ?_⟩
          rw [fupd_ne hu, nu, fupd_same]
          rw [nu] at h3
          omega
    · have av : ∀ i, i < m → it S (fupd cb s.en (some j)) i v ≠ some s.en := fun i hi e => hx ⟨i, hi, e⟩
      have hc : ∀ w, w ≠ s.en → fupd cb s.en (some j) w = cb w := fun w hw => fupd_ne hw
      have e1 := it_avoid (S := S) hc m v av
      rw [e1] at hv
      obtain ⟨i, u, k, s', hi, eu, ek, es, hlt⟩ := cyc v m hm hv
      have eu' : it S (fupd cb s.en (some j)) i v = some u := by
        rw [it_avoid (S := S) hc i v fun a ha => av a (by omega)]
        exact eu
      have hu : u ≠ s.en := fun z => av i hi (by rw [eu', z])
      refine ⟨i, u, k, s', hi, eu', by rw [fupd_ne hu]; exact ek, es, ?_⟩
      rw [fupd_ne hu]
      have := hle s'.st
      omega
  · intro e he
    cases he
    exact os.2.1
end
end Fl
end

section
namespace Fl
/-! ### the ring behind a place -/
def isum : List Int → Int
  | [] => 0
  | a :: r => a + isum r
theorem isum_app : ∀ a b : List Int, isum (a ++ b) = isum a + isum b
  | [], b => by simp [isum]
  | x :: r, b => by simp only [List.cons_append, isum, isum_app r b]; omega
def pth (S : List Stp) (cb : Nat → Option Nat) : Nat → Nat → List (Nat × Stp)
  | 0, _ => []
  | m + 1, v => match cb v with
    | none => []
    | some k => match S[k]? with
      | none => []
      | some s => (k, s) :: pth S cb m s.st
section
variable {n p j : Nat} {S : List Stp} {h : Nat → Int} {cb : Nat → Option Nat}
theorem nx_some {v u : Nat} (e : nx S cb v = some u) : ∃ k s, cb v = some k ∧ S[k]? = some s ∧ s.st = u := by
  unfold nx at e
  cases q : cb v with
  | none => rw [q] at e; cases e
  | some k =>
    rw [q] at e
    simp only [Option.bind_some] at e
    cases qs : S[k]? with
    | none => rw [qs] at e; cases e
    | some s =>
      rw [qs] at e
      simp only [Option.map_some, Option.some.injEq] at e
      exact ⟨k, s, rfl, qs, e⟩
theorem it_step {m v : Nat} (d : it S cb (m + 1) v ≠ none) : ∃ k s, cb v = some k ∧ S[k]? = some s ∧ it S cb (m + 1) v = it S cb m s.st ∧ pth S cb (m + 1) v = (k, s) :: pth S cb m s.st := by
  cases q : nx S cb v with
  | none => simp [it, q] at d
  | some u =>
    obtain ⟨k, s, h1, h2, h3⟩ := nx_some q
    refine ⟨k, s, h1, h2, ?_, ?_⟩
    · simp only [it, q, Option.bind_some, h3]
    · simp only [pth, h1, h2]
theorem pth_len : ∀ {m v : Nat}, it S cb m v ≠ none → (pth S cb m v).length = m
  | 0, v, _ => rfl
  | m + 1, v, d => by
    obtain ⟨k, s, h1, h2, h3, h4⟩ := it_step d
    rw [h4, List.length_cons, pth_len (by rw [← h3]; exact d)]
theorem pth_get : ∀ {m v i : Nat} {q : Nat × Stp}, it S cb m v ≠ none → (pth S cb m v)[i]? = some q → ∃ u, it S cb i v = some u ∧ cb u = some q.1 ∧ S[q.1]? = some q.2 ∧ it S cb (i + 1) v = some q.2.st
  | 0, v, i, q, _, e => by simp [pth] at e
  | m + 1, v, i, q, d, e => by
    obtain ⟨k, s, h1, h2, h3, h4⟩ := it_step d
    rw [h4] at e
    have en : nx S cb v = some s.st := by simp [nx, h1, h2]
    cases i with
    | zero =>
      simp at e
      subst e
      exact ⟨v, rfl, h1, h2, by rw [it_one]; exact en⟩
    | succ i =>
      obtain ⟨u, a, b, c, f⟩ := pth_get (m := m) (v := s.st) (i := i) (by rw [← h3]; exact d) (by simpa using e)
      refine ⟨u, ?_, b, c, ?_⟩
      · simp only [it, en, Option.bind_some]
        exact a
      · show it S cb (i + 1 + 1) v = _
        rw [it, en, Option.bind_some]
        exact f
theorem pth_snoc : ∀ {m v : Nat} {u k : Nat} {s : Stp}, it S cb m v = some u → cb u = some k → S[k]? = some s → pth S cb (m + 1) v = pth S cb m v ++ [(k, s)]
  | 0, v, u, k, s, e, h1, h2 => by
    simp only [it, Option.some.injEq] at e
    subst e
    simp [pth, h1, h2]
  | m + 1, v, u, k, s, e, h1, h2 => by
    obtain ⟨k', s', g1, g2, g3, g4⟩ := it_step (m := m) (v := v) (by rw [e]; simp)
    rw [g4, List.cons_append, ← pth_snoc (m := m) (v := s'.st) (by rw [← g3]; exact e) h1 h2]
    simp only [pth, g1, g2]
theorem pth_tel (ck : ∀ v k, cb v = some k → ∃ s : Stp, S[k]? = some s ∧ s.en = v) (x : Nat → Int) : ∀ {m v u : Nat}, it S cb m v = some u → isum ((pth S cb m v).map fun q => x q.2.en - x q.2.st) = x v - x u
  | 0, v, u, e => by
    simp only [it, Option.some.injEq] at e
    subst e
    simp [pth, isum]
  | m + 1, v, u, e => by
    obtain ⟨k, s, h1, h2, h3, h4⟩ := it_step (m := m) (v := v) (by rw [e]; simp)
    obtain ⟨s', a1, a2⟩ := ck v k h1
    rw [h2] at a1
    cases a1
    rw [h4, List.map_cons, isum, pth_tel ck x (m := m) (v := s.st) (u := u) (by rw [← h3]; exact e), a2]
    show x v - x s.st + (x s.st - x u) = _
    omega
/-- what a ring of steps is -/
structure Ring (S : List Stp) (R : List (Nat × Stp)) : Prop where
  ne : R ≠ []
  mem : ∀ q ∈ R, S[q.1]? = some q.2
  tel : ∀ x : Nat → Int, isum (R.map fun q => x q.2.en - x q.2.st) = 0
  up : 0 < isum (R.map fun q => q.2.ri)
  nd : (R.map fun q => q.2.en).Nodup
theorem sum_pos : ∀ {l : List Int}, (∀ a ∈ l, 0 ≤ a) → (∃ a ∈ l, 0 < a) → 0 < isum l
  | [], _, ⟨a, h, _⟩ => by simp at h
  | b :: r, h, ⟨a, ha, h0⟩ => by
    have hb := h b (by simp)
    have hr : 0 ≤ isum r := by
      clear ha h0
      have : ∀ l : List Int, (∀ a ∈ l, 0 ≤ a) → 0 ≤ isum l := by
        intro l
        induction l with
        | nil => intro _; simp [isum]
        | cons c l ih =>
          intro h
          have := h c (by simp)
          have := ih fun a ha => h a (by simp [ha])
          simp only [isum]
          omega
      exact this r fun a ha => h a (by simp [ha])
    simp only [isum]
    rcases List.mem_cons.mp ha with rfl | ha
    · omega
    · have := sum_pos (l := r) (fun a ha => h a (by simp [ha])) ⟨a, ha, h0⟩
      omega
theorem sum_split (h : Nat → Int) : ∀ R : List (Nat × Stp), isum (R.map fun q => q.2.ri) = isum (R.map fun q => h q.2.st + q.2.ri - h q.2.en) + isum (R.map fun q => h q.2.en - h q.2.st)
  | [] => by simp [isum]
  | q :: r => by
    have := sum_split h r
    simp only [List.map_cons, isum]
    omega
theorem CI.place (o : Okst n S) (c : CI n S p j h cb rs) (hp : n ≤ p) {e : Nat} (he : rs = some e) : ∃ pl, it S cb n e = some pl ∧ ∃ m, 0 < m ∧ it S cb m pl = some pl ∧ ∀ k, 0 < k → k < m → it S cb k pl ≠ some pl := by
  obtain ⟨t, t1, t2, t3, t4, t5⟩ := c.t
  have d : it S cb n e ≠ none := it_le (by rw [t5 e he]; exact hp) (t2 e)
  have eb := c.rok e he
  have bd : ∀ i u, it S cb i e = some u → u < n := by
    intro i u hu
    cases i with
    | zero => simp only [it, Option.some.injEq] at hu; omega
    | succ i =>
      rw [it_succ] at hu
      cases q : it S cb i e with
      | none => rw [q] at hu; cases hu
      | some v =>
        rw [q] at hu
        simp only [Option.bind_some] at hu
        obtain ⟨k, s, h1, h2, h3⟩ := nx_some hu
        rw [← h3]
        exact (o s (List.mem_of_getElem? h2)).1
  cases hw : it S cb n e with
  | none => exact (d hw).elim
  | some pl =>
    refine ⟨pl, rfl, ?_⟩
    have dd : ∀ i, i ≤ n → ∃ u, it S cb i e = some u := fun i hi => by
      cases q : it S cb i e with
      | none => exact (it_le hi d q).elim
      | some u => exact ⟨u, rfl⟩
    have rep : ∃ i k, i < k ∧ k ≤ n ∧ it S cb i e = it S cb k e := by
      apply Classical.byContradiction
      intro hn
      have nd : ((List.range (n + 1)).map fun i => (it S cb i e).getD 0).Nodup := by
        unfold List.Nodup
        rw [List.pairwise_iff_getElem]
        intro i k hi hk hik z
        simp only [List.getElem_map, List.getElem_range] at z
        simp only [List.length_map, List.length_range] at hi hk
        obtain ⟨u, eu⟩ := dd i (by omega)
        obtain ⟨u', eu'⟩ := dd k (by omega)
        rw [eu, eu'] at z
        simp at z
        exact hn ⟨i, k, hik, by omega, by rw [eu, eu', z]⟩
      have h9 := nodup_len n _ nd fun x hx => by
        obtain ⟨i, hi, rfl⟩ := List.mem_map.mp hx
        obtain ⟨u, eu⟩ := dd i (by have := List.mem_range.mp hi; omega)
        rw [eu]
        exact bd i u eu
      rw [List.length_map, List.length_range] at h9
      omega
    obtain ⟨i, k, hik, hk, eq⟩ := rep
    have loop : it S cb (k - i) pl = some pl := by
      obtain ⟨u, eu⟩ := dd i (by omega)
      have h1 : it S cb (k - i) u = some u := by
        have : it S cb (i + (k - i)) e = (it S cb i e).bind (it S cb (k - i)) := it_add _ _ _
        rw [show i + (k - i) = k by omega, ← eq, eu] at this
        exact this.symm
      have h2 : it S cb (n - i) u = some pl := by
        have : it S cb (i + (n - i)) e = (it S cb i e).bind (it S cb (n - i)) := it_add _ _ _
        rw [show i + (n - i) = n by omega, hw, eu] at this
        exact this.symm
      have h3 : it S cb ((n - i) + (k - i)) u = (it S cb (n - i) u).bind (it S cb (k - i)) := it_add _ _ _
      have h4 : it S cb ((k - i) + (n - i)) u = (it S cb (k - i) u).bind (it S cb (n - i)) := it_add _ _ _
      rw [h2] at h3
      rw [h1, Option.bind_some, h2] at h4
      rw [show (k - i) + (n - i) = (n - i) + (k - i) by omega, h3, Option.bind_some] at h4
      exact h4
    obtain ⟨m, ⟨m1, m2⟩, m3⟩ := least_nat (P := fun m => 0 < m ∧ it S cb m pl = some pl) ⟨k - i, by omega, loop⟩
    exact ⟨m, m1, m2, fun k h1 h2 h3 => m3 k h2 ⟨h1, h3⟩⟩
theorem CI.ring (o : Okst n S) (c : CI n S p j h cb rs) {pl m : Nat} (hm : 0 < m) (lp : it S cb m pl = some pl) (mn : ∀ k, 0 < k → k < m → it S cb k pl ≠ some pl) : Ring S (pth S cb m pl) := by
  have d : it S cb m pl ≠ none := by rw [lp]; simp
  have ck : ∀ v k, cb v = some k → ∃ s : Stp, S[k]? = some s ∧ s.en = v := fun v k hk => by
    obtain ⟨s, h1, h2, h3⟩ := c.cbok v k hk
    exact ⟨s, h1, h2⟩
  have en : ∀ {i : Nat} {q : Nat × Stp}, (pth S cb m pl)[i]? = some q → it S cb i pl = some q.2.en ∧ S[q.1]? = some q.2 ∧ cb q.2.en = some q.1 := by
    intro i q hq
    obtain ⟨u, a1, a2, a3, a4⟩ := pth_get d hq
    obtain ⟨s, b1, b2⟩ := ck u _ a2
    rw [a3] at b1
    cases b1
    rw [b2]
    exact ⟨a1, a3, a2⟩
  have tel := fun x => pth_tel ck x (m := m) (v := pl) (u := pl) lp
  refine ⟨?_, ?_, fun x => by rw [tel x]; omega, ?_, ?_⟩
  · intro e
    have := pth_len d
    rw [e] at this
    simp at this
    omega
  · intro q hq
    obtain ⟨i, hi⟩ := List.getElem?_of_mem hq
    exact (en hi).2.1
  · rw [sum_split h, tel h]
    have : 0 < isum ((pth S cb m pl).map fun q => h q.2.st + q.2.ri - h q.2.en) := by
      refine sum_pos (fun a ha => ?_) ?_
      · obtain ⟨q, hq, rfl⟩ := List.mem_map.mp ha
        obtain ⟨i, hi⟩ := List.getElem?_of_mem hq
        obtain ⟨e1, e2, e3⟩ := en hi
        obtain ⟨s, b1, b2, b3⟩ := c.cbok _ _ e3
        rw [e2] at b1
        cases b1
        omega
      · obtain ⟨i, u, k, s, hi, eu, ek, es, hlt⟩ := c.cyc pl m hm lp
        have hil : i < (pth S cb m pl).length := by rw [pth_len d]; exact hi
        obtain ⟨e1, e2, e3⟩ := en (List.getElem?_eq_getElem hil)
        rw [eu] at e1
        cases e1
        rw [ek] at e3
        cases e3
        rw [es] at e2
        cases e2
        exact ⟨_, List.mem_map.mpr ⟨_, List.getElem_mem hil, rfl⟩, by omega⟩
    omega
  · unfold List.Nodup
    rw [List.pairwise_iff_getElem]
    intro i k hi hk hik z
    simp only [List.getElem_map] at z
    simp only [List.length_map] at hi hk
    obtain ⟨e1, _, _⟩ := en (List.getElem?_eq_getElem hi)
    obtain ⟨e2, _, _⟩ := en (List.getElem?_eq_getElem hk)
    rw [pth_len d] at hi hk
    rw [z] at e1
    -- it i pl = it k pl; go on m - k from both
    have h1 : it S cb (i + (m - k)) pl = (it S cb i pl).bind (it S cb (m - k)) := it_add _ _ _
    have h2 : it S cb (k + (m - k)) pl = (it S cb k pl).bind (it S cb (m - k)) := it_add _ _ _
    rw [e1] at h1
    rw [e2, show k + (m - k) = m by omega, lp] at h2
    rw [← h2] at h1
    exact mn (i + (m - k)) (by omega) (by omega) h1
end
end Fl
end

section
namespace Fl
/-! ### flows along links -/
/-- one step or two for each link -/
def stepsL (l : Lnk) (f : Int) (i : Nat) : List Stp := ⟨l.lo, l.up, l.ri, i, 1⟩ :: (if f > 0 then [⟨l.up, l.lo, -l.ri, i, -1⟩] else [])
def stepsFrom : List Lnk → List Int → Nat → List Stp
  | l :: r, f :: fs, i => stepsL l f i ++ stepsFrom r fs (i + 1)
  | _, _, _ => []
def stepsOf (L : List Lnk) (fs : List Int) : List Stp := stepsFrom L fs 0
/-- what flows, measured by x -/
def fx (x : Nat → Int) : List Lnk → List Int → Int
  | l :: r, f :: fs => f * (x l.up - x l.lo) + fx x r fs
  | _, _ => 0
/-- what flows along what rises -/
def fr : List Lnk → List Int → Int
  | l :: r, f :: fs => f * l.ri + fr r fs
  | _, _ => 0
def addAt (fs : List Int) (k : Nat) (d : Int) : List Int := fs.set k (fs.getD k 0 + d)
theorem addAt_len (fs : List Int) (k : Nat) (d : Int) : (addAt fs k d).length = fs.length := List.length_set
theorem fx_add (x : Nat → Int) (d : Int) : ∀ {L : List Lnk} {fs : List Int} {k : Nat} {l : Lnk}, L.length = fs.length → L[k]? = some l → fx x L (addAt fs k d) = fx x L fs + d * (x l.up - x l.lo)
  | [], _, k, l, _, h => by simp at h
  | l0 :: r, [], k, l, h, _ => by simp at h
  | l0 :: r, f :: fs, 0, l, hl, h => by
    simp at h
    subst h
    simp only [addAt, List.set_cons_zero, List.getD_cons_zero, fx, Int.add_mul]
    omega
  | l0 :: r, f :: fs, k + 1, l, hl, h => by
    have := fx_add x d (L := r) (fs := fs) (k := k) (l := l) (by simpa using hl) (by simpa using h)
    simp only [addAt, List.set_cons_succ, List.getD_cons_succ, fx] at this ⊢
    rw [this]
    omega
theorem fr_add (d : Int) : ∀ {L : List Lnk} {fs : List Int} {k : Nat} {l : Lnk}, L.length = fs.length → L[k]? = some l → fr L (addAt fs k d) = fr L fs + d * l.ri
  | [], _, k, l, _, h => by simp at h
  | l0 :: r, [], k, l, h, _ => by simp at h
  | l0 :: r, f :: fs, 0, l, hl, h => by
    simp at h
    subst h
    simp only [addAt, List.set_cons_zero, List.getD_cons_zero, fr, Int.add_mul]
    omega
  | l0 :: r, f :: fs, k + 1, l, hl, h => by
    have := fr_add d (L := r) (fs := fs) (k := k) (l := l) (by simpa using hl) (by simpa using h)
    simp only [addAt, List.set_cons_succ, List.getD_cons_succ, fr] at this ⊢
    rw [this]
    omega
/-- each step is of a link, one way or the other -/
theorem step_mem : ∀ {L : List Lnk} {fs : List Int} {i : Nat} {s : Stp}, s ∈ stepsFrom L fs i → ∃ k l f, L[k]? = some l ∧ fs[k]? = some f ∧ s.lk = i + k ∧ ((s.st = l.lo ∧ s.en = l.up ∧ s.ri = l.ri ∧ s.ch = 1) ∨ (0 < f ∧ s.st = l.up ∧ s.en = l.lo ∧ s.ri = -l.ri ∧ s.ch = -1))
  | [], fs, i, s, h => by simp [stepsFrom] at h
  | l :: r, [], i, s, h => by simp [stepsFrom] at h
  | l :: r, f :: fs, i, s, h => by
    simp only [stepsFrom, List.mem_append] at h
    rcases h with h | h
    · refine ⟨0, l, f, rfl, rfl, ?_⟩
      unfold stepsL at h
      rcases List.mem_cons.mp h with rfl | h
      · exact ⟨rfl, .inl ⟨rfl, rfl, rfl, rfl⟩⟩
      · split at h
        · rename_i hf
          simp only [List.mem_cons, List.not_mem_nil, or_false] at h
          subst h
          exact ⟨rfl, .inr ⟨hf, rfl, rfl, rfl, rfl⟩⟩
        · simp at h
    · obtain ⟨k, l', f', h1, h2, h3, h4⟩ := step_mem (L := r) (fs := fs) (i := i + 1) h
      exact ⟨k + 1, l', f', by simpa using h1, by simpa using h2, by omega, h4⟩
theorem step_fwd : ∀ {L : List Lnk} {fs : List Int} {i k : Nat} {l : Lnk}, L.length = fs.length → L[k]? = some l → ∃ s ∈ stepsFrom L fs i, s.st = l.lo ∧ s.en = l.up ∧ s.ri = l.ri
  | [], _, i, k, l, _, h => by simp at h
  | l0 :: r, [], i, k, l, h, _ => by simp at h
  | l0 :: r, f :: fs, i, 0, l, hl, h => by
    simp at h
    subst h
    exact ⟨⟨l0.lo, l0.up, l0.ri, i, 1⟩, by simp [stepsFrom, stepsL], rfl, rfl, rfl⟩
  | l0 :: r, f :: fs, i, k + 1, l, hl, h => by
    obtain ⟨s, h1, h2⟩ := step_fwd (L := r) (fs := fs) (i := i + 1) (k := k) (l := l) (by simpa using hl) (by simpa using h)
    exact ⟨s, by simp only [stepsFrom, List.mem_append]; exact .inr h1, h2⟩
theorem step_bwd : ∀ {L : List Lnk} {fs : List Int} {i k : Nat} {l : Lnk} {f : Int}, L[k]? = some l → fs[k]? = some f → 0 < f → ∃ s ∈ stepsFrom L fs i, s.st = l.up ∧ s.en = l.lo ∧ s.ri = -l.ri
  | [], _, i, k, l, f, h, _, _ => by simp at h
  | l0 :: r, [], i, k, l, f, _, h, _ => by simp at h
  | l0 :: r, f0 :: fs, i, 0, l, f, h, hf, h0 => by
    simp at h hf
    subst h hf
    refine ⟨⟨l0.up, l0.lo, -l0.ri, i, -1⟩, ?_, rfl, rfl, rfl⟩
    simp only [stepsFrom, stepsL, List.mem_append, List.mem_cons]
    refine .inl (.inr ?_)
    rw [if_pos h0]
    simp
  | l0 :: r, f0 :: fs, i, k + 1, l, f, h, hf, h0 => by
    obtain ⟨s, h1, h2⟩ := step_bwd (L := r) (fs := fs) (i := i + 1) (k := k) (l := l) (by simpa using h) (by simpa using hf) h0
    exact ⟨s, by simp only [stepsFrom, List.mem_append]; exact .inr h1, h2⟩
theorem steps_len : ∀ (L : List Lnk) (fs : List Int) (i : Nat), (stepsFrom L fs i).length ≤ 2 * L.length
  | [], fs, i => by simp [stepsFrom]
  | l :: r, [], i => by simp [stepsFrom]
  | l :: r, f :: fs, i => by
    have := steps_len r fs (i + 1)
    have h : (stepsL l f i).length ≤ 2 := by unfold stepsL; split <;> simp
    simp only [stepsFrom, List.length_append, List.length_cons]
    omega
/-- links that lead on -/
def Okln (n : Nat) (L : List Lnk) : Prop := ∀ l ∈ L, l.lo < l.up ∧ l.up < n ∧ 0 ≤ l.ri ∧ l.ri ≤ 1
theorem okst_of {n : Nat} {L : List Lnk} {fs : List Int} (o : Okln n L) : Okst n (stepsOf L fs) := by
  intro s hs
  obtain ⟨k, l, f, h1, h2, h3, h4⟩ := step_mem hs
  have := o l (List.mem_of_getElem? h1)
  rcases h4 with ⟨a, b, _⟩ | ⟨_, a, b, _⟩ <;> rw [a, b] <;> omega
/-- a ring's steps sent along -/
def sendR (a : Int) : List (Nat × Stp) → List Int → List Int
  | [], fs => fs
  | q :: r, fs => sendR a r (addAt fs q.2.lk (q.2.ch * a))
theorem sendR_snoc (a : Int) : ∀ (R : List (Nat × Stp)) (q : Nat × Stp) (fs : List Int), sendR a (R ++ [q]) fs = addAt (sendR a R fs) q.2.lk (q.2.ch * a)
  | [], q, fs => rfl
  | p :: r, q, fs => sendR_snoc a r q _
theorem sendR_len (a : Int) : ∀ (R : List (Nat × Stp)) (fs : List Int), (sendR a R fs).length = fs.length
  | [], _ => rfl
  | q :: r, fs => by rw [sendR, sendR_len a r, addAt_len]
section
variable {L : List Lnk} {fs0 : List Int}
theorem sendR_fx (x : Nat → Int) (a : Int) : ∀ (R : List (Nat × Stp)) (fs : List Int), L.length = fs.length → L.length = fs0.length → (∀ q ∈ R, q.2 ∈ stepsOf L fs0) → fx x L (sendR a R fs) = fx x L fs + a * isum (R.map fun q => x q.2.en - x q.2.st)
  | [], fs, _, _, _ => by simp [sendR, isum]
  | q :: r, fs, hl, h0, h => by
    obtain ⟨k, l, f, h1, h2, h3, h4⟩ := step_mem (h q (by simp))
    rw [Nat.zero_add] at h3
    rw [sendR, sendR_fx x a r _ (by rw [addAt_len]; exact hl) h0 fun p hp => h p (by simp [hp]), h3, fx_add x _ hl h1]
    simp only [List.map_cons, isum, Int.mul_add]
    have e : q.2.ch * a * (x l.up - x l.lo) = a * (x q.2.en - x q.2.st) := by
      rcases h4 with ⟨c1, c2, _, c3⟩ | ⟨_, c1, c2, _, c3⟩
      · rw [c1, c2, c3, Int.one_mul]
      · rw [c1, c2, c3, Int.neg_one_mul, Int.neg_mul, ← Int.mul_neg, Int.neg_sub]
    rw [e]
    omega
theorem sendR_fr (a : Int) : ∀ (R : List (Nat × Stp)) (fs : List Int), L.length = fs.length → L.length = fs0.length → (∀ q ∈ R, q.2 ∈ stepsOf L fs0) → fr L (sendR a R fs) = fr L fs + a * isum (R.map fun q => q.2.ri)
  | [], fs, _, _, _ => by simp [sendR, isum]
  | q :: r, fs, hl, h0, h => by
    obtain ⟨k, l, f, h1, h2, h3, h4⟩ := step_mem (h q (by simp))
    rw [Nat.zero_add] at h3
    rw [sendR, sendR_fr a r _ (by rw [addAt_len]; exact hl) h0 fun p hp => h p (by simp [hp]), h3, fr_add _ hl h1]
    simp only [List.map_cons, isum, Int.mul_add]
    have e : q.2.ch * a * l.ri = a * q.2.ri := by
      rcases h4 with ⟨_, _, c1, c3⟩ | ⟨_, _, _, c1, c3⟩
      · rw [c1, c3, Int.one_mul]
      · rw [c1, c3, Int.neg_one_mul, Int.neg_mul, ← Int.mul_neg]
    rw [e]
    omega
theorem sendR_nn (a : Int) (ha : 0 ≤ a) : ∀ (R : List (Nat × Stp)) (fs : List Int), (∀ q ∈ R, q.2.ch = 1 ∨ q.2.ch = -1) → (R.map fun q => (q.2.lk, q.2.ch)).Nodup → (∀ q ∈ R, q.2.ch = -1 → a ≤ fs.getD q.2.lk 0) → (∀ f ∈ fs, 0 ≤ f) → ∀ f ∈ sendR a R fs, 0 ≤ f
  | [], fs, _, _, _, h => h
  | q :: r, fs, hc, nd, hm, h => by
    rw [List.map_cons, List.nodup_cons] at nd
    refine sendR_nn a ha r _ (fun p hp => hc p (by simp [hp])) nd.2 (fun p hp he => ?_) fun f hf => ?_
    · have h1 := hm p (by simp [hp]) he
      by_cases e : p.2.lk = q.2.lk
      · rcases hc q (by simp) with c | c
        · unfold addAt
          rw [c, e, Int.one_mul]
          rw [e] at h1
          by_cases hlt : q.2.lk < fs.length
          · simp only [List.getD_eq_getElem?_getD, List.getElem?_set_self hlt, Option.getD_some] at h1 ⊢
            omega
          · rw [List.set_eq_of_length_le (by omega)]
            exact h1
        · exfalso
          refine nd.1 (List.mem_map.mpr ⟨p, hp, ?_⟩)
          rw [e, he, c]
      · unfold addAt
        simp only [List.getD_eq_getElem?_getD] at h1 ⊢
        rw [List.getElem?_set_ne (fun z => e z.symm)]
        exact h1
    · unfold addAt at hf
      rcases List.mem_or_eq_of_mem_set hf with hf | hf
      · exact h f hf
      · rcases hc q (by simp) with c | c
        · have : 0 ≤ fs.getD q.2.lk 0 := by
            rw [List.getD_eq_getElem?_getD]
            cases e : fs[q.2.lk]? with
            | none => simp
            | some g => exact h g (List.mem_of_getElem? e)
          rw [c] at hf
          omega
        · have := hm q (by simp) c
          rw [c] at hf
          omega
end
end Fl
end

section
namespace Fl
/-! ### the fullest flow, the least heights -/
def risesOf (L : List Lnk) : List Int := L.map Lnk.ri
structure Flow (L : List Lnk) (fs : List Int) : Prop where
  len : L.length = fs.length
  nn : ∀ f ∈ fs, 0 ≤ f
  eq : ∀ x : Nat → Int, fx x L fs = fx x L (risesOf L)
theorem Flow.start {n : Nat} {L : List Lnk} (o : Okln n L) : Flow L (risesOf L) := by
  refine ⟨by simp [risesOf], fun f hf => ?_, fun x => rfl⟩
  obtain ⟨l, hl, rfl⟩ := List.mem_map.mp hf
  exact (o l hl).2.2.1
theorem mul_le {f a b : Int} (h : 0 ≤ f) (k : a ≤ b) : f * a ≤ f * b := Int.mul_le_mul_of_nonneg_left k h
/-- any heights that keep the links are a bound -/
theorem fr_le_fx {x : Nat → Int} : ∀ {L : List Lnk} {fs : List Int}, (∀ l ∈ L, x l.lo + l.ri ≤ x l.up) → (∀ f ∈ fs, 0 ≤ f) → fr L fs ≤ fx x L fs
  | [], fs, _, _ => by simp [fr, fx]
  | l :: r, [], _, _ => by simp [fr, fx]
  | l :: r, f :: fs, h, k => by
    have h1 := fr_le_fx (x := x) (L := r) (fs := fs) (fun m hm => h m (by simp [hm])) fun g hg => k g (by simp [hg])
    have h2 := h l (by simp)
    have h3 := mul_le (k f (by simp)) (show l.ri ≤ x l.up - x l.lo by omega)
    simp only [fr, fx]
    omega
/-- what cannot be passed -/
def most (L : List Lnk) : Int := fx (fun v => (v : Int)) L (risesOf L)
theorem Flow.most {n : Nat} {L : List Lnk} {fs : List Int} (o : Okln n L) (w : Flow L fs) : fr L fs ≤ most L := by
  have h1 := fr_le_fx (x := fun v => (v : Int)) (L := L) (fs := fs) (fun l hl => by
    have := o l hl
    show (l.lo : Int) + l.ri ≤ l.up
    omega) w.nn
  rw [w.eq] at h1
  exact h1
theorem fr_nn {n : Nat} : ∀ {L : List Lnk} {fs : List Int}, Okln n L → (∀ f ∈ fs, 0 ≤ f) → 0 ≤ fr L fs
  | [], fs, _, _ => by simp [fr]
  | l :: r, [], _, _ => by simp [fr]
  | l :: r, f :: fs, o, k => by
    have h1 := fr_nn (L := r) (fs := fs) (fun m hm => o m (by simp [hm])) fun g hg => k g (by simp [hg])
    have h2 := mul_le (k f (by simp)) (o l (by simp)).2.2.1
    rw [Int.mul_zero] at h2
    simp only [fr]
    omega
section
variable {n : Nat} {L : List Lnk} {fs : List Int} {R : List (Nat × Stp)}
theorem ring_mem (r : Ring (stepsOf L fs) R) : ∀ q ∈ R, q.2 ∈ stepsOf L fs := fun q hq => List.mem_of_getElem? (r.mem q hq)
theorem ring_ch (r : Ring (stepsOf L fs) R) : ∀ q ∈ R, q.2.ch = 1 ∨ q.2.ch = -1 := fun q hq => by
  obtain ⟨k, l, f, _, _, _, h⟩ := step_mem (ring_mem r q hq)
  rcases h with h | h
  · exact .inl h.2.2.2
  · exact .inr h.2.2.2.2
theorem ring_nd (r : Ring (stepsOf L fs) R) : (R.map fun q => (q.2.lk, q.2.ch)).Nodup := by
  have nd := r.nd
  unfold List.Nodup at nd ⊢
  rw [List.pairwise_iff_getElem] at nd ⊢
  intro i k hi hk hik e
  simp only [List.length_map] at hi hk
  refine nd i k (by simpa using hi) (by simpa using hk) hik ?_
  simp only [List.getElem_map] at e ⊢
  obtain ⟨k1, l1, f1, a1, a2, a3, a4⟩ := step_mem (ring_mem r _ (List.getElem_mem hi))
  obtain ⟨k2, l2, f2, b1, b2, b3, b4⟩ := step_mem (ring_mem r _ (List.getElem_mem hk))
  have e1 := congrArg Prod.fst e
  have e2 := congrArg Prod.snd e
  simp only at e1 e2
  have : k1 = k2 := by omega
  subst this
  rw [a1] at b1
  cases b1
  rcases a4 with ⟨_, c1, _, d1⟩ | ⟨_, _, c1, _, d1⟩ <;> rcases b4 with ⟨_, c2, _, d2⟩ | ⟨_, _, c2, _, d2⟩
  · rw [c1, c2]
  · rw [d1, d2] at e2; cases e2
  · rw [d1, d2] at e2; cases e2
  · rw [c1, c2]
theorem ring_back (o : Okln n L) (r : Ring (stepsOf L fs) R) : ∃ q ∈ R, q.2.ch = -1 := by
  apply Classical.byContradiction
  intro hn
  have h1 : 0 < isum (R.map fun q => ((q.2.en : Nat) : Int) - ((q.2.st : Nat) : Int)) := by
    have hp : ∀ q ∈ R, 0 < ((q.2.en : Nat) : Int) - ((q.2.st : Nat) : Int) := fun q hq => by
      obtain ⟨k, l, f, a1, _, _, h⟩ := step_mem (ring_mem r q hq)
      have := o l (List.mem_of_getElem? a1)
      rcases h with ⟨b1, b2, _, _⟩ | ⟨_, _, _, _, b⟩
      · rw [b1, b2]; omega
      · exact (hn ⟨q, hq, b⟩).elim
    obtain ⟨q, hq⟩ := List.exists_mem_of_ne_nil _ r.ne
    refine sum_pos (fun a ha => ?_) ⟨_, List.mem_map.mpr ⟨q, hq, rfl⟩, hp q hq⟩
    obtain ⟨p, hp', rfl⟩ := List.mem_map.mp ha
    have := hp p hp'
    omega
  have h2 := r.tel fun v => (v : Int)
  omega
theorem ring_full (r : Ring (stepsOf L fs) R) {q : Nat × Stp} (hq : q ∈ R) (hc : q.2.ch = -1) : 0 < fs.getD q.2.lk 0 := by
  obtain ⟨k, l, f, _, a2, a3, h⟩ := step_mem (ring_mem r q hq)
  rcases h with ⟨_, _, _, b⟩ | ⟨b, _⟩
  · rw [hc] at b; cases b
  · rw [List.getD_eq_getElem?_getD, a3, Nat.zero_add, a2]
    exact b
/-- sent round: more flows -/
theorem Flow.send (w : Flow L fs) (r : Ring (stepsOf L fs) R) {a : Int} (ha : 0 < a) (hm : ∀ q ∈ R, q.2.ch = -1 → a ≤ fs.getD q.2.lk 0) : Flow L (sendR a R fs) ∧ fr L fs < fr L (sendR a R fs) := by
  refine ⟨⟨by rw [sendR_len]; exact w.len, sendR_nn a (by omega) R fs (ring_ch r) (ring_nd r) hm w.nn, fun x => ?_⟩, ?_⟩
  · rw [sendR_fx x a R fs w.len w.len (ring_mem r), r.tel x, w.eq x]
    omega
  · rw [sendR_fr a R fs w.len w.len (ring_mem r)]
    have := Int.mul_le_mul_of_nonneg_left (show (1 : Int) ≤ isum (R.map fun q => q.2.ri) from r.up) (show 0 ≤ a by omega)
    rw [Int.mul_one] at this
    omega
/-- the fullest flow and its least heights -/
structure Best (L : List Lnk) (fs : List Int) (h : Nat → Int) : Prop where
  w : Flow L fs
  pos : ∀ v, 0 ≤ h v
  fe : ∀ l ∈ L, h l.lo + l.ri ≤ h l.up
  cs : ∀ (k : Nat) (l : Lnk) (f : Int), L[k]? = some l → fs[k]? = some f → 0 < f → h l.up = h l.lo + l.ri
  low : ∀ x : Nat → Int, (∀ v, 0 ≤ x v) → (∀ l ∈ L, x l.lo + l.ri ≤ x l.up) → (∀ (k : Nat) (l : Lnk) (f : Int), L[k]? = some l → fs[k]? = some f → 0 < f → x l.up = x l.lo + l.ri) → ∀ v, h v ≤ x v
theorem Best.of {p j : Nat} {h : Nat → Int} {cb : Nat → Option Nat} (w : Flow L fs) (c : CI n (stepsOf L fs) p (stepsOf L fs).length h cb none) : Best L fs h := by
  have ok : ∀ s ∈ stepsOf L fs, h s.st + s.ri ≤ h s.en := fun s hs => by
    obtain ⟨k, hk⟩ := List.getElem?_of_mem hs
    exact c.rnone rfl k s hk (List.getElem?_eq_some_iff.mp hk).1
  have fe : ∀ l ∈ L, h l.lo + l.ri ≤ h l.up := fun l hl => by
    obtain ⟨k, hk⟩ := List.getElem?_of_mem hl
    obtain ⟨s, h1, h2, h3, h4⟩ := step_fwd (i := 0) w.len hk
    have := ok s h1
    rw [h2, h3, h4] at this
    exact this
  refine ⟨w, c.pos, fe, fun k l f hl hf h0 => ?_, fun x x1 x2 x3 => c.low x x1 fun s hs => ?_⟩
  · obtain ⟨s, h1, h2, h3, h4⟩ := step_bwd (i := 0) hl hf h0
    have := ok s h1
    rw [h2, h3, h4] at this
    have := fe l (List.mem_of_getElem? hl)
    omega
  · obtain ⟨k, l, f, a1, a2, a3, a4⟩ := step_mem hs
    rcases a4 with ⟨b1, b2, b3, _⟩ | ⟨b0, b1, b2, b3, _⟩
    · rw [b1, b2, b3]
      exact x2 l (List.mem_of_getElem? a1)
    · rw [b1, b2, b3]
      have := x3 k l f a1 a2 b0
      omega
theorem fx_eq_fr {h : Nat → Int} : ∀ {L : List Lnk} {fs : List Int}, (∀ f ∈ fs, 0 ≤ f) → (∀ (k : Nat) (l : Lnk) (f : Int), L[k]? = some l → fs[k]? = some f → 0 < f → h l.up = h l.lo + l.ri) → fx h L fs = fr L fs
  | [], fs, _, _ => by simp [fx, fr]
  | l :: r, [], _, _ => by simp [fx, fr]
  | l :: r, f :: fs, k, c => by
    have h1 := fx_eq_fr (h := h) (L := r) (fs := fs) (fun g hg => k g (by simp [hg])) fun k' l' f' a b => c (k' + 1) l' f' (by simpa using a) (by simpa using b)
    simp only [fx, fr, h1]
    by_cases h0 : 0 < f
    · have h2 := c 0 l f rfl rfl h0
      rw [h2, show h l.lo + l.ri - h l.lo = l.ri by omega]
    · have := k f (by simp)
      have : f = 0 := by omega
      rw [this]
      omega
/-- what the rising links span -/
def span (x : Nat → Int) (L : List Lnk) : Int := fx x L (risesOf L)
theorem Best.span {h : Nat → Int} (b : Best L fs h) : span h L = fr L fs := by
  rw [Fl.span, ← b.w.eq, fx_eq_fr b.w.nn b.cs]
theorem Best.best {h x : Nat → Int} (b : Best L fs h) (x2 : ∀ l ∈ L, x l.lo + l.ri ≤ x l.up) : Fl.span h L ≤ Fl.span x L := by
  rw [b.span, Fl.span, ← b.w.eq]
  exact fr_le_fx x2 b.w.nn
theorem tight {x : Nat → Int} : ∀ {L : List Lnk} {fs : List Int}, (∀ l ∈ L, x l.lo + l.ri ≤ x l.up) → (∀ f ∈ fs, 0 ≤ f) → fx x L fs ≤ fr L fs → ∀ (k : Nat) (l : Lnk) (f : Int), L[k]? = some l → fs[k]? = some f → 0 < f → x l.up = x l.lo + l.ri
  | [], fs, _, _, _, k, l, f, a, _, _ => by simp at a
  | l0 :: r, [], _, _, _, k, l, f, _, a, _ => by simp at a
  | l0 :: r, f0 :: fs, h, nn, e, k, l, f, a, b, h0 => by
    have h1 := fr_le_fx (x := x) (L := r) (fs := fs) (fun m hm => h m (by simp [hm])) fun g hg => nn g (by simp [hg])
    have h2 := h l0 (by simp)
    have h3 := mul_le (nn f0 (by simp)) (show l0.ri ≤ x l0.up - x l0.lo by omega)
    simp only [fx, fr] at e
    cases k with
    | zero =>
      simp at a b
      subst a b
      apply Classical.byContradiction
      intro hn
      have h4 := mul_le (nn f0 (by simp)) (show l0.ri + 1 ≤ x l0.up - x l0.lo by omega)
      rw [Int.mul_add, Int.mul_one] at h4
      omega
    | succ k => exact tight (L := r) (fs := fs) (fun m hm => h m (by simp [hm])) (fun g hg => nn g (by simp [hg])) (by omega) k l f (by simpa using a) (by simpa using b) h0
theorem Best.least {h x : Nat → Int} (b : Best L fs h) (x1 : ∀ v, 0 ≤ x v) (x2 : ∀ l ∈ L, x l.lo + l.ri ≤ x l.up) (e : Fl.span x L ≤ Fl.span h L) : ∀ v, h v ≤ x v := by
  refine b.low x x1 x2 (tight x2 b.w.nn ?_)
  rw [b.w.eq, ← b.span]
  exact e
end
end Fl
end

section
set_option maxRecDepth 100000
set_option maxHeartbeats 1000000
namespace Bq
open PySem PySem.Spec PyProof.Rows L2
/-! ### xs[i] op= e; min and max of a list -/
def rGetL (K : PySem.W.Frag) : V → V → Hp → VK → Prop := fun o i H Q => ∃ p xs, ∃ j : Nat, ∃ z, o = .ref p ∧ i = .int (j : Nat) ∧ SqL K H p xs ∧ xs[j]? = some z ∧ Q z H
theorem get_list {X : Cx} : PGet X (rGetL X.K) := by
  intro pins s σ H o i ov iv Q I ro ri h
  obtain ⟨p, xs, j, z, rfl, rfl, hp, hz, q⟩ := h
  cases ro
  obtain ⟨t, rfl⟩ := ri
  obtain ⟨its, r, pl, hs⟩ := I.list hp
  obtain ⟨u, hu, ru⟩ := r.get hz
  have hn := line63
  have hl := r.length
  have hj : j < xs.length := (List.getElem?_eq_some_iff.mp hz).1
  exact wpAny_getItem_list pl.isList (x := u) (by omega) (by omega) (by simpa using hu) ⟨z, H, I, ru, q⟩
theorem ints_of_vals : ∀ {ns : List Int} {us : List Value}, Vals (ns.map V.int) us → IntsAre us ns
  | [], _, .nil => .nil
  | n :: ns, _, .cons r t => by
    obtain ⟨k, rfl⟩ := r
    exact .cons n k (ints_of_vals t)
def rMinL (K : PySem.W.Frag) : List V → Hp → VK → Prop := fun xs H Q => ∃ p, ∃ ns : List Int, xs = [.ref p] ∧ SqL K H p (ns.map V.int) ∧ ns ≠ [] ∧ ∀ m, m ∈ ns → (∀ a ∈ ns, m ≤ a) → Q (.int m) H
def rMaxL (K : PySem.W.Frag) : List V → Hp → VK → Prop := fun xs H Q => ∃ p, ∃ ns : List Int, xs = [.ref p] ∧ SqL K H p (ns.map V.int) ∧ ns ≠ [] ∧ ∀ m, m ∈ ns → (∀ a ∈ ns, a ≤ m) → Q (.int m) H
theorem call_minL {X : Cx} (hc : X.calm = true) : CallR X (.builtin "min") (rMinL X.K) := by
  intro pins s σ H xs us Q I rs h
  obtain ⟨p, ns, rfl, hp, ne, q⟩ := h
  cases rs with
  | cons r1 rs =>
    cases rs
    cases r1
    obtain ⟨its, r, pl, _⟩ := I.list hp
    have hi := ints_of_vals r
    obtain ⟨xs, e⟩ := hi.allInts.items
    have hns : ns = xs.toList.map (·.1) := by rw [← hi.numsOf, ← nums_intItems, ← e]
    have hsz : 0 < xs.size := by
      have h3 : 0 < ns.length := List.length_pos_iff.mpr ne
      rw [hns, List.length_map, Array.length_toList] at h3
      exact h3
    have hl := pl.isList
    rw [e] at hl
    refine min_intList (I.ok.hd hc) hl hsz fun v h' tk hv hk => ?_
    obtain ⟨t, rfl⟩ := intItems_at hv
    obtain ⟨h1, h2⟩ := argBest_lt (numAt xs) (xs.size - 1)
    refine ⟨.int _, H, I.kept hk, ⟨t, rfl⟩, q _ ?_ fun a ha => ?_⟩
    · rw [hns, numAt_eq]; exact getD_mem (by rw [List.length_map, Array.length_toList]; omega)
    · rw [hns] at ha
      obtain ⟨j, hj, rfl⟩ := mem_getD ha
      rw [List.length_map, Array.length_toList] at hj
      rw [← numAt_eq]; exact h2 j (by omega)
theorem call_maxL {X : Cx} (hc : X.calm = true) : CallR X (.builtin "max") (rMaxL X.K) := by
  intro pins s σ H xs us Q I rs h
  obtain ⟨p, ns, rfl, hp, ne, q⟩ := h
  cases rs with
  | cons r1 rs =>
    cases rs
    cases r1
    obtain ⟨its, r, pl, _⟩ := I.list hp
    have hi := ints_of_vals r
    obtain ⟨xs, e⟩ := hi.allInts.items
    have hns : ns = xs.toList.map (·.1) := by rw [← hi.numsOf, ← nums_intItems, ← e]
    have hsz : 0 < xs.size := by
      have h3 : 0 < ns.length := List.length_pos_iff.mpr ne
      rw [hns, List.length_map, Array.length_toList] at h3
      exact h3
    have hl := pl.isList
    rw [e] at hl
    refine max_intList (I.ok.hd hc) hl hsz fun v h' tk hv hk => ?_
    obtain ⟨t, rfl⟩ := intItems_at hv
    obtain ⟨h1, h2⟩ := argBest_gt (numAt xs) (xs.size - 1)
    refine ⟨.int _, H, I.kept hk, ⟨t, rfl⟩, q _ ?_ fun a ha => ?_⟩
    · rw [hns, numAt_eq]; exact getD_mem (by rw [List.length_map, Array.length_toList]; omega)
    · rw [hns] at ha
      obtain ⟨j, hj, rfl⟩ := mem_getD ha
      rw [List.length_map, Array.length_toList] at hj
      rw [← numAt_eq]; exact h2 j (by omega)
end Bq
end

section
set_option maxRecDepth 100000
namespace K3
open PySem PySem.Spec PyProof.Rows L2
def top (i : Nat) : Stmt := PySem.Challenge.pw_queuemill_k09_least_by_trying_all.main.body.getD i (.Pass ⟨0, 0, 0, 0⟩)
abbrev FnP (K : PySem.W.Frag) (x ql : Str) (st : Stmt) (f : Addr) (fd : FuncData) : Prop := FunD K x ql (defArgs st) (defBody st) (defScope st) [] [] f fd
abbrev s_BadDeed_init : Stmt := inClass (top 2) 0
abbrev s_fullest : Stmt := top 5
abbrev s_steps_left : Stmt := top 6
abbrev s_climbed : Stmt := top 7
abbrev s_ring_behind : Stmt := top 8
abbrev s_send_round : Stmt := top 9
abbrev s_takers : Stmt := top 12
abbrev s_louds : Stmt := top 13
abbrev s_links_of : Stmt := top 14
abbrev s_is_number : Stmt := top 20
abbrev s_places_behind : Stmt := top 21
abbrev s_parts_of : Stmt := top 22
abbrev s_bodies_of : Stmt := top 23
abbrev s_check_deed : Stmt := top 33
abbrev s_body_flaw : Stmt := top 34
abbrev s_things_within : Stmt := top 35
abbrev s_bound_flaw : Stmt := top 36
abbrev s_shape_flaw : Stmt := top 37
abbrev s_number_flaw : Stmt := top 38
abbrev s_takes : Stmt := top 39
abbrev s_layers : Stmt := top 41
abbrev s_lay : Stmt := top 42
abbrev s_row_of : Stmt := top 43
abbrev s_stages : Stmt := top 46
abbrev s_turns : Stmt := top 47
abbrev s_least_stages : Stmt := top 48
abbrev s_check_stages : Stmt := top 49
abbrev s_law_dice : Stmt := top 51
abbrev s_law_next : Stmt := top 52
abbrev s_law_like : Stmt := top 53
abbrev s_law_inner : Stmt := top 54
abbrev s_law_lay : Stmt := top 55
abbrev s_law_tree : Stmt := top 56
abbrev s_law_loud : Stmt := top 57
abbrev s_law_outer : Stmt := top 58
abbrev s_law_small : Stmt := top 59
abbrev s_law_all : Stmt := top 60
abbrev s_law_met : Stmt := top 61
abbrev s_law : Stmt := top 62
theorem sc_fullest : FnScope ["many", "links", "flows", "steps", "heights", "ring", "_", "rise"] ["many", "links"] (defScope s_fullest) := ⟨rfl, rfl, rfl, by decide +kernel, rfl, by decide +kernel, by decide +kernel⟩
theorem sc_steps_left : FnScope ["links", "flows", "steps", "link", "lower", "upper", "rise"] ["links", "flows"] (defScope s_steps_left) := ⟨rfl, rfl, rfl, by decide +kernel, rfl, by decide +kernel, by decide +kernel⟩
theorem sc_climbed : FnScope ["many", "steps", "heights", "came_by", "_", "risen", "step", "start", "end", "rise"] ["many", "steps"] (defScope s_climbed) := ⟨rfl, rfl, rfl, by decide +kernel, rfl, by decide +kernel, by decide +kernel⟩
theorem sc_ring_behind : FnScope ["place", "came_by", "_", "ring"] ["place", "came_by"] (defScope s_ring_behind) := ⟨rfl, rfl, rfl, by decide +kernel, rfl, by decide +kernel, by decide +kernel⟩
theorem sc_send_round : FnScope ["ring", "flows", "_", "link", "change", "amount"] ["ring", "flows"] (defScope s_send_round) := ⟨rfl, rfl, rfl, by decide +kernel, rfl, by decide +kernel, by decide +kernel⟩
theorem sc_takers : FnScope ["layer", "found", "number", "_", "within", "part"] ["layer"] (defScope s_takers) := ⟨rfl, rfl, rfl, by decide +kernel, rfl, by decide +kernel, by decide +kernel⟩
theorem sc_louds : FnScope ["layer", "number", "row", "_"] ["layer"] (defScope s_louds) := ⟨rfl, rfl, rfl, by decide +kernel, rfl, by decide +kernel, by decide +kernel⟩
theorem sc_links_of : FnScope ["layer", "found", "in_turn", "lower", "upper", "part", "taker"] ["layer"] (defScope s_links_of) := ⟨rfl, rfl, rfl, by decide +kernel, rfl, by decide +kernel, by decide +kernel⟩
theorem sc_is_number : FnScope ["thing"] ["thing"] (defScope s_is_number) := ⟨rfl, rfl, rfl, by decide +kernel, rfl, by decide +kernel, by decide +kernel⟩
theorem sc_places_behind : FnScope ["word"] ["word"] (defScope s_places_behind) := ⟨rfl, rfl, rfl, by decide +kernel, rfl, by decide +kernel, by decide +kernel⟩
theorem sc_parts_of : FnScope ["thing", "place", "item"] ["thing"] (defScope s_parts_of) := ⟨rfl, rfl, rfl, by decide +kernel, rfl, by decide +kernel, by decide +kernel⟩
theorem sc_bodies_of : FnScope ["thing", "place", "item"] ["thing"] (defScope s_bodies_of) := ⟨rfl, rfl, rfl, by decide +kernel, rfl, by decide +kernel, by decide +kernel⟩
theorem sc_check_deed : FnScope ["deed", "flaw", "at", "why"] ["deed"] (defScope s_check_deed) := ⟨rfl, rfl, rfl, by decide +kernel, rfl, by decide +kernel, by decide +kernel⟩
theorem sc_body_flaw : FnScope ["body", "names", "params", "todo", "at", "wide", "thing", "around", "why", "deed"] ["body", "names", "params"] (defScope s_body_flaw) := ⟨rfl, rfl, rfl, by decide +kernel, rfl, by decide +kernel, by decide +kernel⟩
theorem sc_things_within : FnScope ["thing", "around", "found", "body", "part", "deed"] ["thing", "around"] (defScope s_things_within) := ⟨rfl, rfl, rfl, by decide +kernel, rfl, by decide +kernel, by decide +kernel⟩
theorem sc_bound_flaw : FnScope ["at", "around", "wide"] ["at", "around", "wide"] (defScope s_bound_flaw) := ⟨rfl, rfl, rfl, by decide +kernel, rfl, by decide +kernel, by decide +kernel⟩
theorem sc_shape_flaw : FnScope ["thing", "around", "known", "place", "item"] ["thing", "around"] (defScope s_shape_flaw) := ⟨rfl, rfl, rfl, by decide +kernel, rfl, by decide +kernel, by decide +kernel⟩
theorem sc_number_flaw : FnScope ["thing", "names", "params", "place", "item"] ["thing", "names", "params"] (defScope s_number_flaw) := ⟨rfl, rfl, rfl, by decide +kernel, rfl, by decide +kernel, by decide +kernel⟩
theorem sc_takes : FnScope ["fun", "many", "params"] ["fun", "many", "params"] (defScope s_takes) := ⟨rfl, rfl, rfl, by decide +kernel, rfl, by decide +kernel, by decide +kernel⟩
theorem sc_layers : FnScope ["deed", "found"] ["deed"] (defScope s_layers) := ⟨rfl, rfl, rfl, by decide +kernel, rfl, by decide +kernel, by decide +kernel⟩
theorem sc_lay : FnScope ["thing", "found", "within", "part"] ["thing", "found"] (defScope s_lay) := ⟨rfl, rfl, rfl, by decide +kernel, rfl, by decide +kernel, by decide +kernel⟩
theorem sc_row_of : FnScope ["thing", "word"] ["thing"] (defScope s_row_of) := ⟨rfl, rfl, rfl, by decide +kernel, rfl, by decide +kernel, by decide +kernel⟩
theorem sc_stages : FnScope ["deed"] ["deed"] (defScope s_stages) := ⟨rfl, rfl, rfl, by decide +kernel, rfl, by decide +kernel, by decide +kernel⟩
theorem sc_turns : FnScope ["deed", "some", "layer", "lower", "upper", "rise"] ["deed", "some"] (defScope s_turns) := ⟨rfl, rfl, rfl, by decide +kernel, rfl, by decide +kernel, by decide +kernel⟩
theorem sc_least_stages : FnScope ["layer", "_", "heights"] ["layer"] (defScope s_least_stages) := ⟨rfl, rfl, rfl, by decide +kernel, rfl, by decide +kernel, by decide +kernel⟩
theorem sc_check_stages : FnScope ["layer", "some", "lower", "upper", "rise", "stage"] ["layer", "some"] (defScope s_check_stages) := ⟨rfl, rfl, rfl, by decide +kernel, rfl, by decide +kernel, by decide +kernel⟩
theorem sc_law_dice : FnScope ["_law_script", "_law_mixed", "_law_cell"] ["_law_script"] (defScope s_law_dice) := ⟨rfl, rfl, rfl, by decide +kernel, rfl, by decide +kernel, by decide +kernel⟩
theorem sc_law_next : FnScope ["_law_dice_here", "_law_many", "_law_found", "_law_cell"] ["_law_dice_here", "_law_many"] (defScope s_law_next) := ⟨rfl, rfl, rfl, by decide +kernel, rfl, by decide +kernel, by decide +kernel⟩
theorem sc_law_like : FnScope ["_law_found", "_law_due", "_law_k"] ["_law_found", "_law_due"] (defScope s_law_like) := ⟨rfl, rfl, rfl, by decide +kernel, rfl, by decide +kernel, by decide +kernel⟩
theorem sc_law_inner : FnScope ["_law_thing", "_law_many"] ["_law_thing"] (defScope s_law_inner) := ⟨rfl, rfl, rfl, by decide +kernel, rfl, by decide +kernel, by decide +kernel⟩
theorem sc_law_lay : FnScope ["_law_part", "_law_found", "_law_kids", "_law_row", "_law_one"] ["_law_part", "_law_found"] (defScope s_law_lay) := ⟨rfl, rfl, rfl, by decide +kernel, rfl, by decide +kernel, by decide +kernel⟩
theorem sc_law_tree : FnScope ["_law_deed", "_law_found", "_law_kids", "_law_row", "_law_one"] ["_law_deed"] (defScope s_law_tree) := ⟨rfl, rfl, rfl, by decide +kernel, rfl, by decide +kernel, by decide +kernel⟩
theorem sc_law_loud : FnScope ["_law_tree_here", "_law_number"] ["_law_tree_here"] (defScope s_law_loud) := ⟨rfl, rfl, rfl, by decide +kernel, rfl, by decide +kernel, by decide +kernel⟩
theorem sc_law_outer : FnScope ["_law_tree_here", "_law_found", "_law_number", "_law_kid"] ["_law_tree_here"] (defScope s_law_outer) := ⟨rfl, rfl, rfl, by decide +kernel, rfl, by decide +kernel, by decide +kernel⟩
theorem sc_law_small : FnScope ["_law_d", "_law_room", "_law_way", "_law_one"] ["_law_d", "_law_room"] (defScope s_law_small) := ⟨rfl, rfl, rfl, by decide +kernel, rfl, by decide +kernel, by decide +kernel⟩
theorem sc_law_all : FnScope ["_law_tree_here", "_law_some", "_law_many", "_law_best", "_law_found", "_law_number", "_law_kids", "_law_loud_here", "_law_low", "_law_tries", "_law_stage", "_law_here", "_law_more", "_law_kid", "_law_one"] ["_law_tree_here", "_law_some", "_law_many", "_law_best", "_law_found"] (defScope s_law_all) := ⟨rfl, rfl, rfl, by decide +kernel, rfl, by decide +kernel, by decide +kernel⟩
theorem sc_law_met : FnScope ["_law_tree_here", "_law_here", "_law_many", "_law_best", "_law_found", "_law_outer_here", "_law_full", "_law_k"] ["_law_tree_here", "_law_here", "_law_many", "_law_best", "_law_found"] (defScope s_law_met) := ⟨rfl, rfl, rfl, by decide +kernel, rfl, by decide +kernel, by decide +kernel⟩
theorem sc_law : FnScope ["_law_script", "_law_d", "_law_turn", "_law_deed", "_law_tree_here", "_law_tried", "_law_best", "_law_found", "_law_due", "_law_again", "_law_some", "_law_number", "_law_k", "_law_full"] ["_law_script"] (defScope s_law) := ⟨rfl, rfl, rfl, by decide +kernel, rfl, by decide +kernel, by decide +kernel⟩
end K3
end

section
set_option maxRecDepth 100000
set_option maxHeartbeats 0
namespace K3
open PySem PySem.Spec PyProof.Rows L2
def d_BadDeed_init : He.DefD := ⟨("BadDeed", some "__init__"), "__init__", "BadDeed.__init__", defArgs s_BadDeed_init, defBody s_BadDeed_init, defScope s_BadDeed_init, [], []⟩
def d_fullest : He.DefD := ⟨("fullest", none), "fullest", "fullest", defArgs s_fullest, defBody s_fullest, defScope s_fullest, [], []⟩
def d_steps_left : He.DefD := ⟨("steps_left", none), "steps_left", "steps_left", defArgs s_steps_left, defBody s_steps_left, defScope s_steps_left, [], []⟩
def d_climbed : He.DefD := ⟨("climbed", none), "climbed", "climbed", defArgs s_climbed, defBody s_climbed, defScope s_climbed, [], []⟩
def d_ring_behind : He.DefD := ⟨("ring_behind", none), "ring_behind", "ring_behind", defArgs s_ring_behind, defBody s_ring_behind, defScope s_ring_behind, [], []⟩
def d_send_round : He.DefD := ⟨("send_round", none), "send_round", "send_round", defArgs s_send_round, defBody s_send_round, defScope s_send_round, [], []⟩
def d_takers : He.DefD := ⟨("takers", none), "takers", "takers", defArgs s_takers, defBody s_takers, defScope s_takers, [], []⟩
def d_louds : He.DefD := ⟨("louds", none), "louds", "louds", defArgs s_louds, defBody s_louds, defScope s_louds, [], []⟩
def d_links_of : He.DefD := ⟨("links_of", none), "links_of", "links_of", defArgs s_links_of, defBody s_links_of, defScope s_links_of, [], []⟩
def d_is_number : He.DefD := ⟨("is_number", none), "is_number", "is_number", defArgs s_is_number, defBody s_is_number, defScope s_is_number, [], []⟩
def d_places_behind : He.DefD := ⟨("places_behind", none), "places_behind", "places_behind", defArgs s_places_behind, defBody s_places_behind, defScope s_places_behind, [], []⟩
def d_parts_of : He.DefD := ⟨("parts_of", none), "parts_of", "parts_of", defArgs s_parts_of, defBody s_parts_of, defScope s_parts_of, [], []⟩
def d_bodies_of : He.DefD := ⟨("bodies_of", none), "bodies_of", "bodies_of", defArgs s_bodies_of, defBody s_bodies_of, defScope s_bodies_of, [], []⟩
def d_check_deed : He.DefD := ⟨("check_deed", none), "check_deed", "check_deed", defArgs s_check_deed, defBody s_check_deed, defScope s_check_deed, [], []⟩
def d_body_flaw : He.DefD := ⟨("body_flaw", none), "body_flaw", "body_flaw", defArgs s_body_flaw, defBody s_body_flaw, defScope s_body_flaw, [], []⟩
def d_things_within : He.DefD := ⟨("things_within", none), "things_within", "things_within", defArgs s_things_within, defBody s_things_within, defScope s_things_within, [], []⟩
def d_bound_flaw : He.DefD := ⟨("bound_flaw", none), "bound_flaw", "bound_flaw", defArgs s_bound_flaw, defBody s_bound_flaw, defScope s_bound_flaw, [], []⟩
def d_shape_flaw : He.DefD := ⟨("shape_flaw", none), "shape_flaw", "shape_flaw", defArgs s_shape_flaw, defBody s_shape_flaw, defScope s_shape_flaw, [], []⟩
def d_number_flaw : He.DefD := ⟨("number_flaw", none), "number_flaw", "number_flaw", defArgs s_number_flaw, defBody s_number_flaw, defScope s_number_flaw, [], []⟩
def d_takes : He.DefD := ⟨("takes", none), "takes", "takes", defArgs s_takes, defBody s_takes, defScope s_takes, [], []⟩
def d_layers : He.DefD := ⟨("layers", none), "layers", "layers", defArgs s_layers, defBody s_layers, defScope s_layers, [], []⟩
def d_lay : He.DefD := ⟨("lay", none), "lay", "lay", defArgs s_lay, defBody s_lay, defScope s_lay, [], []⟩
def d_row_of : He.DefD := ⟨("row_of", none), "row_of", "row_of", defArgs s_row_of, defBody s_row_of, defScope s_row_of, [], []⟩
def d_stages : He.DefD := ⟨("stages", none), "stages", "stages", defArgs s_stages, defBody s_stages, defScope s_stages, [], []⟩
def d_turns : He.DefD := ⟨("turns", none), "turns", "turns", defArgs s_turns, defBody s_turns, defScope s_turns, [], []⟩
def d_least_stages : He.DefD := ⟨("least_stages", none), "least_stages", "least_stages", defArgs s_least_stages, defBody s_least_stages, defScope s_least_stages, [], []⟩
def d_check_stages : He.DefD := ⟨("check_stages", none), "check_stages", "check_stages", defArgs s_check_stages, defBody s_check_stages, defScope s_check_stages, [], []⟩
def d_law_dice : He.DefD := ⟨("_law_dice", none), "_law_dice", "_law_dice", defArgs s_law_dice, defBody s_law_dice, defScope s_law_dice, [], []⟩
def d_law_next : He.DefD := ⟨("_law_next", none), "_law_next", "_law_next", defArgs s_law_next, defBody s_law_next, defScope s_law_next, [], []⟩
def d_law_like : He.DefD := ⟨("_law_like", none), "_law_like", "_law_like", defArgs s_law_like, defBody s_law_like, defScope s_law_like, [], []⟩
def d_law_inner : He.DefD := ⟨("_law_inner", none), "_law_inner", "_law_inner", defArgs s_law_inner, defBody s_law_inner, defScope s_law_inner, [], []⟩
def d_law_lay : He.DefD := ⟨("_law_lay", none), "_law_lay", "_law_lay", defArgs s_law_lay, defBody s_law_lay, defScope s_law_lay, [], []⟩
def d_law_tree : He.DefD := ⟨("_law_tree", none), "_law_tree", "_law_tree", defArgs s_law_tree, defBody s_law_tree, defScope s_law_tree, [], []⟩
def d_law_loud : He.DefD := ⟨("_law_loud", none), "_law_loud", "_law_loud", defArgs s_law_loud, defBody s_law_loud, defScope s_law_loud, [], []⟩
def d_law_outer : He.DefD := ⟨("_law_outer", none), "_law_outer", "_law_outer", defArgs s_law_outer, defBody s_law_outer, defScope s_law_outer, [], []⟩
def d_law_small : He.DefD := ⟨("_law_small", none), "_law_small", "_law_small", defArgs s_law_small, defBody s_law_small, defScope s_law_small, [], []⟩
def d_law_all : He.DefD := ⟨("_law_all", none), "_law_all", "_law_all", defArgs s_law_all, defBody s_law_all, defScope s_law_all, [], []⟩
def d_law_met : He.DefD := ⟨("_law_met", none), "_law_met", "_law_met", defArgs s_law_met, defBody s_law_met, defScope s_law_met, [], []⟩
def d_law : He.DefD := ⟨("law", none), "law", "law", defArgs s_law, defBody s_law, defScope s_law, [], []⟩
def fn_0 : List He.DefD := [d_fullest, d_steps_left, d_climbed, d_ring_behind, d_send_round, d_takers, d_louds, d_links_of, d_is_number, d_places_behind, d_parts_of, d_bodies_of, d_check_deed, d_body_flaw, d_things_within, d_bound_flaw, d_shape_flaw, d_number_flaw, d_takes, d_layers, d_lay, d_row_of, d_stages, d_turns, d_least_stages, d_check_stages, d_law_dice, d_law_next, d_law_like, d_law_inner, d_law_lay, d_law_tree, d_law_loud, d_law_outer, d_law_small]
def fn_1 : List He.DefD := [d_law_all, d_law_met, d_law]
def fn : List He.DefD := fn_0 ++ fn_1
def fa_0 : List He.Fa := [.glo "fullest", .glo "steps_left", .glo "climbed", .glo "ring_behind", .glo "send_round", .glo "takers", .glo "louds", .glo "links_of", .glo "is_number", .glo "places_behind", .glo "parts_of", .glo "bodies_of", .glo "check_deed", .glo "body_flaw", .glo "things_within", .glo "bound_flaw", .glo "shape_flaw", .glo "number_flaw", .glo "takes", .glo "layers", .glo "lay", .glo "row_of", .glo "stages", .glo "turns", .glo "least_stages", .glo "check_stages", .glo "_law_dice", .glo "_law_next", .glo "_law_like", .glo "_law_inner", .glo "_law_lay", .glo "_law_tree", .glo "_law_loud", .glo "_law_outer", .glo "_law_small"]
def fa_1 : List He.Fa := [.glo "_law_all", .glo "_law_met", .glo "law", .glo "MillError", .glo "BadDeed", .glo "BadStages", .glo "LOUD", .glo "DEEDS", .glo "PARTS", .glo "NUMBER_PLACES", .glo "TUPLE_PLACES", .int "MOST_FUNS" (8), .int "MOST_PARAMS" (4), .int "MOST_NAMES" (8), .int "MOST_THINGS" (200), .int "MOST_DEEDS_AROUND" (7), .int "MOST_PARTS" (40), .int "MOST_NUM" (1000000), .int "A_PART" (-1), .int "MOST_STAGE" (1000), .free "super", .free "enumerate", .free "range", .free "len", .free "min", .free "zip", .free "isinstance", .free "int", .free "bool", .free "list", .free "reversed", .free "tuple", .free "str", .free "abs", .free "sum"]
def fa_2 : List He.Fa := [.free "all", .free "max"]
def fa : List He.Fa := fa_0 ++ fa_1 ++ fa_2
def loose_0 : List Str := [("fullest" : Str), ("steps_left" : Str), ("climbed" : Str), ("ring_behind" : Str), ("send_round" : Str), ("takers" : Str), ("louds" : Str), ("links_of" : Str), ("is_number" : Str), ("places_behind" : Str), ("parts_of" : Str), ("bodies_of" : Str), ("check_deed" : Str), ("body_flaw" : Str), ("things_within" : Str), ("bound_flaw" : Str), ("shape_flaw" : Str), ("number_flaw" : Str), ("takes" : Str), ("layers" : Str), ("lay" : Str), ("row_of" : Str), ("stages" : Str), ("turns" : Str), ("least_stages" : Str), ("check_stages" : Str), ("_law_dice" : Str), ("_law_next" : Str), ("_law_like" : Str), ("_law_inner" : Str), ("_law_lay" : Str), ("_law_tree" : Str), ("_law_loud" : Str), ("_law_outer" : Str), ("_law_small" : Str)]
def loose_1 : List Str := [("_law_all" : Str), ("_law_met" : Str), ("MillError" : Str), ("BadDeed" : Str), ("BadStages" : Str), ("LOUD" : Str), ("DEEDS" : Str), ("PARTS" : Str), ("NUMBER_PLACES" : Str), ("TUPLE_PLACES" : Str), ("MOST_FUNS" : Str), ("MOST_PARAMS" : Str), ("MOST_NAMES" : Str), ("MOST_THINGS" : Str), ("MOST_DEEDS_AROUND" : Str), ("MOST_PARTS" : Str), ("MOST_NUM" : Str), ("A_PART" : Str), ("MOST_STAGE" : Str)]
def loose : List Str := loose_0 ++ loose_1
def ts : List He.Tab := [(fun K => He.ga K "DEEDS", ["set", "put", "say", "if", "while", "return", "do"]), (fun K => He.ga K "PARTS", ["num", "name", "add", "take", "times", "over", "rest", "less", "same", "not", "get", "call"])]
def tupsB (K : PySem.W.Frag) : Bool := Bq.modTup K "LOUD" ["over", "rest", "get", "call"] && Bq.modTup K "NUMBER_PLACES" ["n", "name", "fun"] && Bq.modTup K "TUPLE_PLACES" ["body", "parts"]
def tabsB (K : PySem.W.Frag) : Bool := Bq.modTab K "DEEDS" [("set", some ["name", "part"]), ("put", some ["part", "part"]), ("say", some ["part"]), ("if", some ["part", "body", "body"]), ("while", some ["part", "body"]), ("return", some ["part"]), ("do", some ["part"]), ("num", none), ("name", none), ("add", none), ("take", none), ("times", none), ("over", none), ("rest", none), ("less", none), ("same", none), ("not", none), ("get", none), ("call", none)] && Bq.modTab K "PARTS" [("set", none), ("put", none), ("say", none), ("if", none), ("while", none), ("return", none), ("do", none), ("num", some ["n"]), ("name", some ["name"]), ("add", some ["part", "part"]), ("take", some ["part", "part"]), ("times", some ["part", "part"]), ("over", some ["part", "part"]), ("rest", some ["part", "part"]), ("less", some ["part", "part"]), ("same", some ["part", "part"]), ("not", some ["part"]), ("get", some ["part"]), ("call", some ["fun", "parts"])]
def lstsB (K : PySem.W.Frag) : Bool := true
def sdsB (K : PySem.W.Frag) : Bool := true
structure Cn (w : World) (K : PySem.W.Frag) (mg : Str → Option Value) (base : Heap) : Prop where
  says : He.SaysT fa fn ts w K
  kin : K.In base
  ns : base.Ns mainGlobals mg
  tups : tupsB K = true
  tabs : tabsB K = true
  lsts : lstsB K = true
  sds : sdsB K = true
section
variable {P : Program} {w : World} {K : PySem.W.Frag} {mg : Str → Option Value} {base : Heap}
theorem Cn.m_super (C : Cn w K mg base) : mg "super" = none := He.free_ok C.kin C.ns (C.says.d.fact 55)
theorem Cn.m_enumerate (C : Cn w K mg base) : mg "enumerate" = none := He.free_ok C.kin C.ns (C.says.d.fact 56)
theorem Cn.m_range (C : Cn w K mg base) : mg "range" = none := He.free_ok C.kin C.ns (C.says.d.fact 57)
theorem Cn.m_len (C : Cn w K mg base) : mg "len" = none := He.free_ok C.kin C.ns (C.says.d.fact 58)
theorem Cn.m_min (C : Cn w K mg base) : mg "min" = none := He.free_ok C.kin C.ns (C.says.d.fact 59)
theorem Cn.m_zip (C : Cn w K mg base) : mg "zip" = none := He.free_ok C.kin C.ns (C.says.d.fact 60)
theorem Cn.m_isinstance (C : Cn w K mg base) : mg "isinstance" = none := He.free_ok C.kin C.ns (C.says.d.fact 61)
theorem Cn.m_int (C : Cn w K mg base) : mg "int" = none := He.free_ok C.kin C.ns (C.says.d.fact 62)
theorem Cn.m_bool (C : Cn w K mg base) : mg "bool" = none := He.free_ok C.kin C.ns (C.says.d.fact 63)
theorem Cn.m_list (C : Cn w K mg base) : mg "list" = none := He.free_ok C.kin C.ns (C.says.d.fact 64)
theorem Cn.m_reversed (C : Cn w K mg base) : mg "reversed" = none := He.free_ok C.kin C.ns (C.says.d.fact 65)
theorem Cn.m_tuple (C : Cn w K mg base) : mg "tuple" = none := He.free_ok C.kin C.ns (C.says.d.fact 66)
theorem Cn.m_str (C : Cn w K mg base) : mg "str" = none := He.free_ok C.kin C.ns (C.says.d.fact 67)
theorem Cn.m_abs (C : Cn w K mg base) : mg "abs" = none := He.free_ok C.kin C.ns (C.says.d.fact 68)
theorem Cn.m_sum (C : Cn w K mg base) : mg "sum" = none := He.free_ok C.kin C.ns (C.says.d.fact 69)
theorem Cn.m_all (C : Cn w K mg base) : mg "all" = none := He.free_ok C.kin C.ns (C.says.d.fact 70)
theorem Cn.m_max (C : Cn w K mg base) : mg "max" = none := He.free_ok C.kin C.ns (C.says.d.fact 71)
theorem Cn.i_MOST_FUNS (C : Cn w K mg base) : ∃ t, mg "MOST_FUNS" = some (.int (8) t) := He.int_ok C.kin C.ns (C.says.d.fact 46)
theorem Cn.i_MOST_PARAMS (C : Cn w K mg base) : ∃ t, mg "MOST_PARAMS" = some (.int (4) t) := He.int_ok C.kin C.ns (C.says.d.fact 47)
theorem Cn.i_MOST_NAMES (C : Cn w K mg base) : ∃ t, mg "MOST_NAMES" = some (.int (8) t) := He.int_ok C.kin C.ns (C.says.d.fact 48)
theorem Cn.i_MOST_THINGS (C : Cn w K mg base) : ∃ t, mg "MOST_THINGS" = some (.int (200) t) := He.int_ok C.kin C.ns (C.says.d.fact 49)
theorem Cn.i_MOST_DEEDS_AROUND (C : Cn w K mg base) : ∃ t, mg "MOST_DEEDS_AROUND" = some (.int (7) t) := He.int_ok C.kin C.ns (C.says.d.fact 50)
theorem Cn.i_MOST_PARTS (C : Cn w K mg base) : ∃ t, mg "MOST_PARTS" = some (.int (40) t) := He.int_ok C.kin C.ns (C.says.d.fact 51)
theorem Cn.i_MOST_NUM (C : Cn w K mg base) : ∃ t, mg "MOST_NUM" = some (.int (1000000) t) := He.int_ok C.kin C.ns (C.says.d.fact 52)
theorem Cn.i_A_PART (C : Cn w K mg base) : ∃ t, mg "A_PART" = some (.int (-1) t) := He.int_ok C.kin C.ns (C.says.d.fact 53)
theorem Cn.i_MOST_STAGE (C : Cn w K mg base) : ∃ t, mg "MOST_STAGE" = some (.int (1000) t) := He.int_ok C.kin C.ns (C.says.d.fact 54)
theorem Cn.g_LOUD (C : Cn w K mg base) : mg "LOUD" = some (.ref (He.ga K "LOUD")) := He.glo_ok C.kin C.ns (C.says.d.fact 41)
theorem Cn.t_LOUD (C : Cn w K mg base) (H : Hp) : SqT K H (He.ga K "LOUD") [V.str "over", V.str "rest", V.str "get", V.str "call"] := Bq.modTup_ok (He.ba (He.ba C.tups).1).1 H
theorem Cn.g_NUMBER_PLACES (C : Cn w K mg base) : mg "NUMBER_PLACES" = some (.ref (He.ga K "NUMBER_PLACES")) := He.glo_ok C.kin C.ns (C.says.d.fact 44)
theorem Cn.t_NUMBER_PLACES (C : Cn w K mg base) (H : Hp) : SqT K H (He.ga K "NUMBER_PLACES") [V.str "n", V.str "name", V.str "fun"] := Bq.modTup_ok (He.ba (He.ba C.tups).1).2 H
theorem Cn.g_TUPLE_PLACES (C : Cn w K mg base) : mg "TUPLE_PLACES" = some (.ref (He.ga K "TUPLE_PLACES")) := He.glo_ok C.kin C.ns (C.says.d.fact 45)
theorem Cn.t_TUPLE_PLACES (C : Cn w K mg base) (H : Hp) : SqT K H (He.ga K "TUPLE_PLACES") [V.str "body", V.str "parts"] := Bq.modTup_ok (He.ba C.tups).2 H
theorem Cn.g_DEEDS (C : Cn w K mg base) : mg "DEEDS" = some (.ref (He.ga K "DEEDS")) := He.glo_ok C.kin C.ns (C.says.d.fact 42)
theorem Cn.k_DEEDS (C : Cn w K mg base) : ∃ es n, KDict K w (He.ga K "DEEDS") es n := C.says.tab 0
theorem Cn.v_DEEDS (C : Cn w K mg base) : Bq.modTab K "DEEDS" [("set", some ["name", "part"]), ("put", some ["part", "part"]), ("say", some ["part"]), ("if", some ["part", "body", "body"]), ("while", some ["part", "body"]), ("return", some ["part"]), ("do", some ["part"]), ("num", none), ("name", none), ("add", none), ("take", none), ("times", none), ("over", none), ("rest", none), ("less", none), ("same", none), ("not", none), ("get", none), ("call", none)] = true := (He.ba C.tabs).1
theorem Cn.g_PARTS (C : Cn w K mg base) : mg "PARTS" = some (.ref (He.ga K "PARTS")) := He.glo_ok C.kin C.ns (C.says.d.fact 43)
theorem Cn.k_PARTS (C : Cn w K mg base) : ∃ es n, KDict K w (He.ga K "PARTS") es n := C.says.tab 1
theorem Cn.v_PARTS (C : Cn w K mg base) : Bq.modTab K "PARTS" [("set", none), ("put", none), ("say", none), ("if", none), ("while", none), ("return", none), ("do", none), ("num", some ["n"]), ("name", some ["name"]), ("add", some ["part", "part"]), ("take", some ["part", "part"]), ("times", some ["part", "part"]), ("over", some ["part", "part"]), ("rest", some ["part", "part"]), ("less", some ["part", "part"]), ("same", some ["part", "part"]), ("not", some ["part"]), ("get", some ["part"]), ("call", some ["fun", "parts"])] = true := (He.ba C.tabs).2
theorem Cn.f_fullest (C : Cn w K mg base) {CX : CXT} {k : Nat} {sp : Sp} (h : ∀ fd, FnP K "fullest" "fullest" s_fullest (He.ga K "fullest") fd → FnOk P w K mg base CX k (He.ga K "fullest") fd ["many", "links"] sp) : Bq.Fn P w K mg base CX k "fullest" ["many", "links"] sp := by
  obtain ⟨fd, F⟩ := C.says.d.def_ 0 (d := d_fullest) rfl
  exact ⟨_, fd, h fd F, FunD.bindsN F (fun _ _ _ _ _ _ us hl => match us, hl with | [_, _], _ => rfl), He.glo_ok C.kin C.ns (C.says.d.fact 0), F.kp⟩
theorem Cn.f_steps_left (C : Cn w K mg base) {CX : CXT} {k : Nat} {sp : Sp} (h : ∀ fd, FnP K "steps_left" "steps_left" s_steps_left (He.ga K "steps_left") fd → FnOk P w K mg base CX k (He.ga K "steps_left") fd ["links", "flows"] sp) : Bq.Fn P w K mg base CX k "steps_left" ["links", "flows"] sp := by
  obtain ⟨fd, F⟩ := C.says.d.def_ 1 (d := d_steps_left) rfl
  exact ⟨_, fd, h fd F, FunD.bindsN F (fun _ _ _ _ _ _ us hl => match us, hl with | [_, _], _ => rfl), He.glo_ok C.kin C.ns (C.says.d.fact 1), F.kp⟩
theorem Cn.f_climbed (C : Cn w K mg base) {CX : CXT} {k : Nat} {sp : Sp} (h : ∀ fd, FnP K "climbed" "climbed" s_climbed (He.ga K "climbed") fd → FnOk P w K mg base CX k (He.ga K "climbed") fd ["many", "steps"] sp) : Bq.Fn P w K mg base CX k "climbed" ["many", "steps"] sp := by
  obtain ⟨fd, F⟩ := C.says.d.def_ 2 (d := d_climbed) rfl
  exact ⟨_, fd, h fd F, FunD.bindsN F (fun _ _ _ _ _ _ us hl => match us, hl with | [_, _], _ => rfl), He.glo_ok C.kin C.ns (C.says.d.fact 2), F.kp⟩
theorem Cn.f_ring_behind (C : Cn w K mg base) {CX : CXT} {k : Nat} {sp : Sp} (h : ∀ fd, FnP K "ring_behind" "ring_behind" s_ring_behind (He.ga K "ring_behind") fd → FnOk P w K mg base CX k (He.ga K "ring_behind") fd ["place", "came_by"] sp) : Bq.Fn P w K mg base CX k "ring_behind" ["place", "came_by"] sp := by
  obtain ⟨fd, F⟩ := C.says.d.def_ 3 (d := d_ring_behind) rfl
  exact ⟨_, fd, h fd F, FunD.bindsN F (fun _ _ _ _ _ _ us hl => match us, hl with | [_, _], _ => rfl), He.glo_ok C.kin C.ns (C.says.d.fact 3), F.kp⟩
theorem Cn.f_send_round (C : Cn w K mg base) {CX : CXT} {k : Nat} {sp : Sp} (h : ∀ fd, FnP K "send_round" "send_round" s_send_round (He.ga K "send_round") fd → FnOk P w K mg base CX k (He.ga K "send_round") fd ["ring", "flows"] sp) : Bq.Fn P w K mg base CX k "send_round" ["ring", "flows"] sp := by
  obtain ⟨fd, F⟩ := C.says.d.def_ 4 (d := d_send_round) rfl
  exact ⟨_, fd, h fd F, FunD.bindsN F (fun _ _ _ _ _ _ us hl => match us, hl with | [_, _], _ => rfl), He.glo_ok C.kin C.ns (C.says.d.fact 4), F.kp⟩
theorem Cn.f_takers (C : Cn w K mg base) {CX : CXT} {k : Nat} {sp : Sp} (h : ∀ fd, FnP K "takers" "takers" s_takers (He.ga K "takers") fd → FnOk P w K mg base CX k (He.ga K "takers") fd ["layer"] sp) : Bq.Fn P w K mg base CX k "takers" ["layer"] sp := by
  obtain ⟨fd, F⟩ := C.says.d.def_ 5 (d := d_takers) rfl
  exact ⟨_, fd, h fd F, FunD.bindsN F (fun _ _ _ _ _ _ us hl => match us, hl with | [_], _ => rfl), He.glo_ok C.kin C.ns (C.says.d.fact 5), F.kp⟩
theorem Cn.f_louds (C : Cn w K mg base) {CX : CXT} {k : Nat} {sp : Sp} (h : ∀ fd, FnP K "louds" "louds" s_louds (He.ga K "louds") fd → FnOk P w K mg base CX k (He.ga K "louds") fd ["layer"] sp) : Bq.Fn P w K mg base CX k "louds" ["layer"] sp := by
  obtain ⟨fd, F⟩ := C.says.d.def_ 6 (d := d_louds) rfl
  exact ⟨_, fd, h fd F, FunD.bindsN F (fun _ _ _ _ _ _ us hl => match us, hl with | [_], _ => rfl), He.glo_ok C.kin C.ns (C.says.d.fact 6), F.kp⟩
theorem Cn.f_links_of (C : Cn w K mg base) {CX : CXT} {k : Nat} {sp : Sp} (h : ∀ fd, FnP K "links_of" "links_of" s_links_of (He.ga K "links_of") fd → FnOk P w K mg base CX k (He.ga K "links_of") fd ["layer"] sp) : Bq.Fn P w K mg base CX k "links_of" ["layer"] sp := by
  obtain ⟨fd, F⟩ := C.says.d.def_ 7 (d := d_links_of) rfl
  exact ⟨_, fd, h fd F, FunD.bindsN F (fun _ _ _ _ _ _ us hl => match us, hl with | [_], _ => rfl), He.glo_ok C.kin C.ns (C.says.d.fact 7), F.kp⟩
theorem Cn.f_is_number (C : Cn w K mg base) {CX : CXT} {k : Nat} {sp : Sp} (h : ∀ fd, FnP K "is_number" "is_number" s_is_number (He.ga K "is_number") fd → FnOk P w K mg base CX k (He.ga K "is_number") fd ["thing"] sp) : Bq.Fn P w K mg base CX k "is_number" ["thing"] sp := by
  obtain ⟨fd, F⟩ := C.says.d.def_ 8 (d := d_is_number) rfl
  exact ⟨_, fd, h fd F, FunD.bindsN F (fun _ _ _ _ _ _ us hl => match us, hl with | [_], _ => rfl), He.glo_ok C.kin C.ns (C.says.d.fact 8), F.kp⟩
theorem Cn.f_places_behind (C : Cn w K mg base) {CX : CXT} {k : Nat} {sp : Sp} (h : ∀ fd, FnP K "places_behind" "places_behind" s_places_behind (He.ga K "places_behind") fd → FnOk P w K mg base CX k (He.ga K "places_behind") fd ["word"] sp) : Bq.Fn P w K mg base CX k "places_behind" ["word"] sp := by
  obtain ⟨fd, F⟩ := C.says.d.def_ 9 (d := d_places_behind) rfl
  exact ⟨_, fd, h fd F, FunD.bindsN F (fun _ _ _ _ _ _ us hl => match us, hl with | [_], _ => rfl), He.glo_ok C.kin C.ns (C.says.d.fact 9), F.kp⟩
theorem Cn.f_parts_of (C : Cn w K mg base) {CX : CXT} {k : Nat} {sp : Sp} (h : ∀ fd, FnP K "parts_of" "parts_of" s_parts_of (He.ga K "parts_of") fd → FnOk P w K mg base CX k (He.ga K "parts_of") fd ["thing"] sp) : Bq.Fn P w K mg base CX k "parts_of" ["thing"] sp := by
  obtain ⟨fd, F⟩ := C.says.d.def_ 10 (d := d_parts_of) rfl
  exact ⟨_, fd, h fd F, FunD.bindsN F (fun _ _ _ _ _ _ us hl => match us, hl with | [_], _ => rfl), He.glo_ok C.kin C.ns (C.says.d.fact 10), F.kp⟩
theorem Cn.f_bodies_of (C : Cn w K mg base) {CX : CXT} {k : Nat} {sp : Sp} (h : ∀ fd, FnP K "bodies_of" "bodies_of" s_bodies_of (He.ga K "bodies_of") fd → FnOk P w K mg base CX k (He.ga K "bodies_of") fd ["thing"] sp) : Bq.Fn P w K mg base CX k "bodies_of" ["thing"] sp := by
  obtain ⟨fd, F⟩ := C.says.d.def_ 11 (d := d_bodies_of) rfl
  exact ⟨_, fd, h fd F, FunD.bindsN F (fun _ _ _ _ _ _ us hl => match us, hl with | [_], _ => rfl), He.glo_ok C.kin C.ns (C.says.d.fact 11), F.kp⟩
theorem Cn.f_check_deed (C : Cn w K mg base) {CX : CXT} {k : Nat} {sp : Sp} (h : ∀ fd, FnP K "check_deed" "check_deed" s_check_deed (He.ga K "check_deed") fd → FnOk P w K mg base CX k (He.ga K "check_deed") fd ["deed"] sp) : Bq.Fn P w K mg base CX k "check_deed" ["deed"] sp := by
  obtain ⟨fd, F⟩ := C.says.d.def_ 12 (d := d_check_deed) rfl
  exact ⟨_, fd, h fd F, FunD.bindsN F (fun _ _ _ _ _ _ us hl => match us, hl with | [_], _ => rfl), He.glo_ok C.kin C.ns (C.says.d.fact 12), F.kp⟩
theorem Cn.f_body_flaw (C : Cn w K mg base) {CX : CXT} {k : Nat} {sp : Sp} (h : ∀ fd, FnP K "body_flaw" "body_flaw" s_body_flaw (He.ga K "body_flaw") fd → FnOk P w K mg base CX k (He.ga K "body_flaw") fd ["body", "names", "params"] sp) : Bq.Fn P w K mg base CX k "body_flaw" ["body", "names", "params"] sp := by
  obtain ⟨fd, F⟩ := C.says.d.def_ 13 (d := d_body_flaw) rfl
  exact ⟨_, fd, h fd F, FunD.bindsN F (fun _ _ _ _ _ _ us hl => match us, hl with | [_, _, _], _ => rfl), He.glo_ok C.kin C.ns (C.says.d.fact 13), F.kp⟩
theorem Cn.f_things_within (C : Cn w K mg base) {CX : CXT} {k : Nat} {sp : Sp} (h : ∀ fd, FnP K "things_within" "things_within" s_things_within (He.ga K "things_within") fd → FnOk P w K mg base CX k (He.ga K "things_within") fd ["thing", "around"] sp) : Bq.Fn P w K mg base CX k "things_within" ["thing", "around"] sp := by
  obtain ⟨fd, F⟩ := C.says.d.def_ 14 (d := d_things_within) rfl
  exact ⟨_, fd, h fd F, FunD.bindsN F (fun _ _ _ _ _ _ us hl => match us, hl with | [_, _], _ => rfl), He.glo_ok C.kin C.ns (C.says.d.fact 14), F.kp⟩
theorem Cn.f_bound_flaw (C : Cn w K mg base) {CX : CXT} {k : Nat} {sp : Sp} (h : ∀ fd, FnP K "bound_flaw" "bound_flaw" s_bound_flaw (He.ga K "bound_flaw") fd → FnOk P w K mg base CX k (He.ga K "bound_flaw") fd ["at", "around", "wide"] sp) : Bq.Fn P w K mg base CX k "bound_flaw" ["at", "around", "wide"] sp := by
  obtain ⟨fd, F⟩ := C.says.d.def_ 15 (d := d_bound_flaw) rfl
  exact ⟨_, fd, h fd F, FunD.bindsN F (fun _ _ _ _ _ _ us hl => match us, hl with | [_, _, _], _ => rfl), He.glo_ok C.kin C.ns (C.says.d.fact 15), F.kp⟩
theorem Cn.f_shape_flaw (C : Cn w K mg base) {CX : CXT} {k : Nat} {sp : Sp} (h : ∀ fd, FnP K "shape_flaw" "shape_flaw" s_shape_flaw (He.ga K "shape_flaw") fd → FnOk P w K mg base CX k (He.ga K "shape_flaw") fd ["thing", "around"] sp) : Bq.Fn P w K mg base CX k "shape_flaw" ["thing", "around"] sp := by
  obtain ⟨fd, F⟩ := C.says.d.def_ 16 (d := d_shape_flaw) rfl
  exact ⟨_, fd, h fd F, FunD.bindsN F (fun _ _ _ _ _ _ us hl => match us, hl with | [_, _], _ => rfl), He.glo_ok C.kin C.ns (C.says.d.fact 16), F.kp⟩
theorem Cn.f_number_flaw (C : Cn w K mg base) {CX : CXT} {k : Nat} {sp : Sp} (h : ∀ fd, FnP K "number_flaw" "number_flaw" s_number_flaw (He.ga K "number_flaw") fd → FnOk P w K mg base CX k (He.ga K "number_flaw") fd ["thing", "names", "params"] sp) : Bq.Fn P w K mg base CX k "number_flaw" ["thing", "names", "params"] sp := by
  obtain ⟨fd, F⟩ := C.says.d.def_ 17 (d := d_number_flaw) rfl
  exact ⟨_, fd, h fd F, FunD.bindsN F (fun _ _ _ _ _ _ us hl => match us, hl with | [_, _, _], _ => rfl), He.glo_ok C.kin C.ns (C.says.d.fact 17), F.kp⟩
theorem Cn.f_takes (C : Cn w K mg base) {CX : CXT} {k : Nat} {sp : Sp} (h : ∀ fd, FnP K "takes" "takes" s_takes (He.ga K "takes") fd → FnOk P w K mg base CX k (He.ga K "takes") fd ["fun", "many", "params"] sp) : Bq.Fn P w K mg base CX k "takes" ["fun", "many", "params"] sp := by
  obtain ⟨fd, F⟩ := C.says.d.def_ 18 (d := d_takes) rfl
  exact ⟨_, fd, h fd F, FunD.bindsN F (fun _ _ _ _ _ _ us hl => match us, hl with | [_, _, _], _ => rfl), He.glo_ok C.kin C.ns (C.says.d.fact 18), F.kp⟩
theorem Cn.f_layers (C : Cn w K mg base) {CX : CXT} {k : Nat} {sp : Sp} (h : ∀ fd, FnP K "layers" "layers" s_layers (He.ga K "layers") fd → FnOk P w K mg base CX k (He.ga K "layers") fd ["deed"] sp) : Bq.Fn P w K mg base CX k "layers" ["deed"] sp := by
  obtain ⟨fd, F⟩ := C.says.d.def_ 19 (d := d_layers) rfl
  exact ⟨_, fd, h fd F, FunD.bindsN F (fun _ _ _ _ _ _ us hl => match us, hl with | [_], _ => rfl), He.glo_ok C.kin C.ns (C.says.d.fact 19), F.kp⟩
theorem Cn.f_lay (C : Cn w K mg base) {CX : CXT} {k : Nat} {sp : Sp} (h : ∀ fd, FnP K "lay" "lay" s_lay (He.ga K "lay") fd → FnOk P w K mg base CX k (He.ga K "lay") fd ["thing", "found"] sp) : Bq.Fn P w K mg base CX k "lay" ["thing", "found"] sp := by
  obtain ⟨fd, F⟩ := C.says.d.def_ 20 (d := d_lay) rfl
  exact ⟨_, fd, h fd F, FunD.bindsN F (fun _ _ _ _ _ _ us hl => match us, hl with | [_, _], _ => rfl), He.glo_ok C.kin C.ns (C.says.d.fact 20), F.kp⟩
theorem Cn.f_row_of (C : Cn w K mg base) {CX : CXT} {k : Nat} {sp : Sp} (h : ∀ fd, FnP K "row_of" "row_of" s_row_of (He.ga K "row_of") fd → FnOk P w K mg base CX k (He.ga K "row_of") fd ["thing"] sp) : Bq.Fn P w K mg base CX k "row_of" ["thing"] sp := by
  obtain ⟨fd, F⟩ := C.says.d.def_ 21 (d := d_row_of) rfl
  exact ⟨_, fd, h fd F, FunD.bindsN F (fun _ _ _ _ _ _ us hl => match us, hl with | [_], _ => rfl), He.glo_ok C.kin C.ns (C.says.d.fact 21), F.kp⟩
theorem Cn.f_stages (C : Cn w K mg base) {CX : CXT} {k : Nat} {sp : Sp} (h : ∀ fd, FnP K "stages" "stages" s_stages (He.ga K "stages") fd → FnOk P w K mg base CX k (He.ga K "stages") fd ["deed"] sp) : Bq.Fn P w K mg base CX k "stages" ["deed"] sp := by
  obtain ⟨fd, F⟩ := C.says.d.def_ 22 (d := d_stages) rfl
  exact ⟨_, fd, h fd F, FunD.bindsN F (fun _ _ _ _ _ _ us hl => match us, hl with | [_], _ => rfl), He.glo_ok C.kin C.ns (C.says.d.fact 22), F.kp⟩
theorem Cn.f_turns (C : Cn w K mg base) {CX : CXT} {k : Nat} {sp : Sp} (h : ∀ fd, FnP K "turns" "turns" s_turns (He.ga K "turns") fd → FnOk P w K mg base CX k (He.ga K "turns") fd ["deed", "some"] sp) : Bq.Fn P w K mg base CX k "turns" ["deed", "some"] sp := by
  obtain ⟨fd, F⟩ := C.says.d.def_ 23 (d := d_turns) rfl
  exact ⟨_, fd, h fd F, FunD.bindsN F (fun _ _ _ _ _ _ us hl => match us, hl with | [_, _], _ => rfl), He.glo_ok C.kin C.ns (C.says.d.fact 23), F.kp⟩
theorem Cn.f_least_stages (C : Cn w K mg base) {CX : CXT} {k : Nat} {sp : Sp} (h : ∀ fd, FnP K "least_stages" "least_stages" s_least_stages (He.ga K "least_stages") fd → FnOk P w K mg base CX k (He.ga K "least_stages") fd ["layer"] sp) : Bq.Fn P w K mg base CX k "least_stages" ["layer"] sp := by
  obtain ⟨fd, F⟩ := C.says.d.def_ 24 (d := d_least_stages) rfl
  exact ⟨_, fd, h fd F, FunD.bindsN F (fun _ _ _ _ _ _ us hl => match us, hl with | [_], _ => rfl), He.glo_ok C.kin C.ns (C.says.d.fact 24), F.kp⟩
theorem Cn.f_check_stages (C : Cn w K mg base) {CX : CXT} {k : Nat} {sp : Sp} (h : ∀ fd, FnP K "check_stages" "check_stages" s_check_stages (He.ga K "check_stages") fd → FnOk P w K mg base CX k (He.ga K "check_stages") fd ["layer", "some"] sp) : Bq.Fn P w K mg base CX k "check_stages" ["layer", "some"] sp := by
  obtain ⟨fd, F⟩ := C.says.d.def_ 25 (d := d_check_stages) rfl
  exact ⟨_, fd, h fd F, FunD.bindsN F (fun _ _ _ _ _ _ us hl => match us, hl with | [_, _], _ => rfl), He.glo_ok C.kin C.ns (C.says.d.fact 25), F.kp⟩
theorem Cn.f_law_dice (C : Cn w K mg base) {CX : CXT} {k : Nat} {sp : Sp} (h : ∀ fd, FnP K "_law_dice" "_law_dice" s_law_dice (He.ga K "_law_dice") fd → FnOk P w K mg base CX k (He.ga K "_law_dice") fd ["_law_script"] sp) : Bq.Fn P w K mg base CX k "_law_dice" ["_law_script"] sp := by
  obtain ⟨fd, F⟩ := C.says.d.def_ 26 (d := d_law_dice) rfl
  exact ⟨_, fd, h fd F, FunD.bindsN F (fun _ _ _ _ _ _ us hl => match us, hl with | [_], _ => rfl), He.glo_ok C.kin C.ns (C.says.d.fact 26), F.kp⟩
theorem Cn.f_law_next (C : Cn w K mg base) {CX : CXT} {k : Nat} {sp : Sp} (h : ∀ fd, FnP K "_law_next" "_law_next" s_law_next (He.ga K "_law_next") fd → FnOk P w K mg base CX k (He.ga K "_law_next") fd ["_law_dice_here", "_law_many"] sp) : Bq.Fn P w K mg base CX k "_law_next" ["_law_dice_here", "_law_many"] sp := by
  obtain ⟨fd, F⟩ := C.says.d.def_ 27 (d := d_law_next) rfl
  exact ⟨_, fd, h fd F, FunD.bindsN F (fun _ _ _ _ _ _ us hl => match us, hl with | [_, _], _ => rfl), He.glo_ok C.kin C.ns (C.says.d.fact 27), F.kp⟩
theorem Cn.f_law_like (C : Cn w K mg base) {CX : CXT} {k : Nat} {sp : Sp} (h : ∀ fd, FnP K "_law_like" "_law_like" s_law_like (He.ga K "_law_like") fd → FnOk P w K mg base CX k (He.ga K "_law_like") fd ["_law_found", "_law_due"] sp) : Bq.Fn P w K mg base CX k "_law_like" ["_law_found", "_law_due"] sp := by
  obtain ⟨fd, F⟩ := C.says.d.def_ 28 (d := d_law_like) rfl
  exact ⟨_, fd, h fd F, FunD.bindsN F (fun _ _ _ _ _ _ us hl => match us, hl with | [_, _], _ => rfl), He.glo_ok C.kin C.ns (C.says.d.fact 28), F.kp⟩
theorem Cn.f_law_inner (C : Cn w K mg base) {CX : CXT} {k : Nat} {sp : Sp} (h : ∀ fd, FnP K "_law_inner" "_law_inner" s_law_inner (He.ga K "_law_inner") fd → FnOk P w K mg base CX k (He.ga K "_law_inner") fd ["_law_thing"] sp) : Bq.Fn P w K mg base CX k "_law_inner" ["_law_thing"] sp := by
  obtain ⟨fd, F⟩ := C.says.d.def_ 29 (d := d_law_inner) rfl
  exact ⟨_, fd, h fd F, FunD.bindsN F (fun _ _ _ _ _ _ us hl => match us, hl with | [_], _ => rfl), He.glo_ok C.kin C.ns (C.says.d.fact 29), F.kp⟩
theorem Cn.f_law_lay (C : Cn w K mg base) {CX : CXT} {k : Nat} {sp : Sp} (h : ∀ fd, FnP K "_law_lay" "_law_lay" s_law_lay (He.ga K "_law_lay") fd → FnOk P w K mg base CX k (He.ga K "_law_lay") fd ["_law_part", "_law_found"] sp) : Bq.Fn P w K mg base CX k "_law_lay" ["_law_part", "_law_found"] sp := by
  obtain ⟨fd, F⟩ := C.says.d.def_ 30 (d := d_law_lay) rfl
  exact ⟨_, fd, h fd F, FunD.bindsN F (fun _ _ _ _ _ _ us hl => match us, hl with | [_, _], _ => rfl), He.glo_ok C.kin C.ns (C.says.d.fact 30), F.kp⟩
theorem Cn.f_law_tree (C : Cn w K mg base) {CX : CXT} {k : Nat} {sp : Sp} (h : ∀ fd, FnP K "_law_tree" "_law_tree" s_law_tree (He.ga K "_law_tree") fd → FnOk P w K mg base CX k (He.ga K "_law_tree") fd ["_law_deed"] sp) : Bq.Fn P w K mg base CX k "_law_tree" ["_law_deed"] sp := by
  obtain ⟨fd, F⟩ := C.says.d.def_ 31 (d := d_law_tree) rfl
  exact ⟨_, fd, h fd F, FunD.bindsN F (fun _ _ _ _ _ _ us hl => match us, hl with | [_], _ => rfl), He.glo_ok C.kin C.ns (C.says.d.fact 31), F.kp⟩
theorem Cn.f_law_loud (C : Cn w K mg base) {CX : CXT} {k : Nat} {sp : Sp} (h : ∀ fd, FnP K "_law_loud" "_law_loud" s_law_loud (He.ga K "_law_loud") fd → FnOk P w K mg base CX k (He.ga K "_law_loud") fd ["_law_tree_here"] sp) : Bq.Fn P w K mg base CX k "_law_loud" ["_law_tree_here"] sp := by
  obtain ⟨fd, F⟩ := C.says.d.def_ 32 (d := d_law_loud) rfl
  exact ⟨_, fd, h fd F, FunD.bindsN F (fun _ _ _ _ _ _ us hl => match us, hl with | [_], _ => rfl), He.glo_ok C.kin C.ns (C.says.d.fact 32), F.kp⟩
theorem Cn.f_law_outer (C : Cn w K mg base) {CX : CXT} {k : Nat} {sp : Sp} (h : ∀ fd, FnP K "_law_outer" "_law_outer" s_law_outer (He.ga K "_law_outer") fd → FnOk P w K mg base CX k (He.ga K "_law_outer") fd ["_law_tree_here"] sp) : Bq.Fn P w K mg base CX k "_law_outer" ["_law_tree_here"] sp := by
  obtain ⟨fd, F⟩ := C.says.d.def_ 33 (d := d_law_outer) rfl
  exact ⟨_, fd, h fd F, FunD.bindsN F (fun _ _ _ _ _ _ us hl => match us, hl with | [_], _ => rfl), He.glo_ok C.kin C.ns (C.says.d.fact 33), F.kp⟩
theorem Cn.f_law_small (C : Cn w K mg base) {CX : CXT} {k : Nat} {sp : Sp} (h : ∀ fd, FnP K "_law_small" "_law_small" s_law_small (He.ga K "_law_small") fd → FnOk P w K mg base CX k (He.ga K "_law_small") fd ["_law_d", "_law_room"] sp) : Bq.Fn P w K mg base CX k "_law_small" ["_law_d", "_law_room"] sp := by
  obtain ⟨fd, F⟩ := C.says.d.def_ 34 (d := d_law_small) rfl
  exact ⟨_, fd, h fd F, FunD.bindsN F (fun _ _ _ _ _ _ us hl => match us, hl with | [_, _], _ => rfl), He.glo_ok C.kin C.ns (C.says.d.fact 34), F.kp⟩
theorem Cn.f_law_all (C : Cn w K mg base) {CX : CXT} {k : Nat} {sp : Sp} (h : ∀ fd, FnP K "_law_all" "_law_all" s_law_all (He.ga K "_law_all") fd → FnOk P w K mg base CX k (He.ga K "_law_all") fd ["_law_tree_here", "_law_some", "_law_many", "_law_best", "_law_found"] sp) : Bq.Fn P w K mg base CX k "_law_all" ["_law_tree_here", "_law_some", "_law_many", "_law_best", "_law_found"] sp := by
  obtain ⟨fd, F⟩ := C.says.d.def_ 35 (d := d_law_all) rfl
  exact ⟨_, fd, h fd F, FunD.bindsN F (fun _ _ _ _ _ _ us hl => match us, hl with | [_, _, _, _, _], _ => rfl), He.glo_ok C.kin C.ns (C.says.d.fact 35), F.kp⟩
theorem Cn.f_law_met (C : Cn w K mg base) {CX : CXT} {k : Nat} {sp : Sp} (h : ∀ fd, FnP K "_law_met" "_law_met" s_law_met (He.ga K "_law_met") fd → FnOk P w K mg base CX k (He.ga K "_law_met") fd ["_law_tree_here", "_law_here", "_law_many", "_law_best", "_law_found"] sp) : Bq.Fn P w K mg base CX k "_law_met" ["_law_tree_here", "_law_here", "_law_many", "_law_best", "_law_found"] sp := by
  obtain ⟨fd, F⟩ := C.says.d.def_ 36 (d := d_law_met) rfl
  exact ⟨_, fd, h fd F, FunD.bindsN F (fun _ _ _ _ _ _ us hl => match us, hl with | [_, _, _, _, _], _ => rfl), He.glo_ok C.kin C.ns (C.says.d.fact 36), F.kp⟩
theorem Cn.f_law (C : Cn w K mg base) {CX : CXT} {k : Nat} {sp : Sp} (h : ∀ fd, FnP K "law" "law" s_law (He.ga K "law") fd → FnOk P w K mg base CX k (He.ga K "law") fd ["_law_script"] sp) : Bq.Fn P w K mg base CX k "law" ["_law_script"] sp := by
  obtain ⟨fd, F⟩ := C.says.d.def_ 37 (d := d_law) rfl
  exact ⟨_, fd, h fd F, FunD.bindsN F (fun _ _ _ _ _ _ us hl => match us, hl with | [_], _ => rfl), He.glo_ok C.kin C.ns (C.says.d.fact 37), F.kp⟩
end
end K3
end

section
set_option maxRecDepth 100000
set_option maxHeartbeats 1000000
open Bq L2
/-- one step of a reading; what is left are side goals and places to think -/
local macro_rules | `(tactic| walk_at "g1") => `(tactic| first
  | with_reducible refine' g_seq ?_ | with_reducible refine' g_asg ?_ | with_reducible refine' g_drop ?_ | with_reducible refine' g_ret ?_ | with_reducible refine' g_ifS ?_ | with_reducible refine' g_asgG ?_
  | ((with_reducible refine' g_var ?hv ?_); (case hv => rfl))
  | with_reducible refine' g_c ?_ | with_reducible refine' g_op ?_ | with_reducible refine' g_un ?_ | with_reducible refine' g_I0 ?_ | with_reducible refine' g_U ?_
  | with_reducible refine' g_test ?_ | with_reducible refine' g_tB ?_ | with_reducible refine Exists.intro _ (And.intro rfl ?_) 
  | ((with_reducible refine' g_andP ?ha ?hb ?_); (case ha => intro R q; walk_at "g"; exact q); (case hb => intro R q; walk_at "g"; exact q))
  | ((with_reducible refine' g_orP ?ha ?hb ?_); (case ha => intro R q; walk_at "g"; exact q); (case hb => intro R q; walk_at "g"; exact q))
  | with_reducible refine' g_and ?_ | with_reducible refine' g_or ?_ | with_reducible refine' g_not ?_
  | with_reducible refine' g_andV ?_ | with_reducible refine' g_orV ?_ | with_reducible refine' g_notV ?_ | with_reducible refine' g_if ?_ | with_reducible refine' g_nil ?_ | with_reducible refine' g_cons ?_
  | with_reducible refine' g_tup ?_ | with_reducible refine' g_lst ?_ | with_reducible refine' g_CB ?_ | with_reducible refine' g_Fn ?_ | with_reducible refine' g_next ?_ | with_reducible refine' g_retN ?_
  | with_reducible refine' g_name ?_ | with_reducible refine' g_sub ?_
  | ((with_reducible refine' g_ixL ?hs ?he ?_); (case hs => walk_at "lk"); (case he => walk_at "at"))
  | ((with_reducible refine' g_ixT ?hs ?he ?_); (case hs => walk_at "lk"); (case he => walk_at "at"))
  | ((with_reducible refine' g_setL ?hs ?he ?_); (case hs => walk_at "hp"); (case he => rfl))
  | ((with_reducible refine' g_app ?hs ?hz ?_); (case hs => walk_at "hp"); (case hz => walk_at "sz"))
  | ((with_reducible refine' ⟨_, _, rfl, Or.inl ?hs, ?_⟩); (case hs => walk_at "lk"))
  | ((with_reducible refine' ⟨_, _, rfl, Or.inr ?hs, ?_⟩); (case hs => walk_at "lk"))
  | with_reducible refine' g_BM ?_ | with_reducible refine' g_BM0 ?_ | ((with_reducible refine' g_tyL ?hs ?_); (case hs => walk_at "lk"))
  | with_reducible refine' g_sl ?_ | with_reducible refine' g_noPart ?_ | with_reducible refine' g_part ?_
  | ((with_reducible refine' g_inT ?hs ?fx ?fs ?_); (case hs => walk_at "lk"); (case fx => rfl); (case fs => rfl))
  | with_reducible refine' g_pair ?_ | with_reducible refine' g_pair0 ?_ | with_reducible refine' g_disp ?_
  | with_reducible refine' g_for ?_ | with_reducible refine' g_tupC ?_ | with_reducible refine' g_lstC ?_ | ((with_reducible refine' g_lens ?_)) | with_reducible refine' g_dg ?_ | with_reducible refine' g_lc ?_ | with_reducible refine' g_rng1 ?_ | with_reducible refine' g_ilist ?_ | with_reducible refine' g_itup ?_
  | ((with_reducible refine' ⟨_, _, rfl, ?hd, ?_⟩); (case hd => walk_at "dg"))
  | ((with_reducible refine' g_eqNil ?hs ?hz ?_); (case hs => walk_at "lk"); (case hz => walk_at "lk"))
  | ((with_reducible refine' g_neNil ?hs ?hz ?_); (case hs => walk_at "lk"); (case hz => walk_at "lk"))
  | with_reducible refine Or.inl ⟨_, rfl, ?_⟩
  | with_reducible refine Or.inr ⟨_, rfl, ?_⟩
  | ((with_reducible refine' g_eq ?hs ?_); (case hs => rfl))
  | ((with_reducible refine' g_ne ?hs ?_); (case hs => rfl))
  | ((with_reducible refine' g_I ?hc ?_); (case hc => walk_at "ar")))
/-- arithmetic's side conditions -/
local macro_rules | `(tactic| walk_at "ar") => `(tactic| (first
  | (show (0 : Int) < _; first | omega | decide) | (show (0 : Int) < _ ∧ _; constructor <;> omega) | (show ¬ (_ : Int) = _; omega) | (show (_ : Int) ≠ _ ∧ _; constructor <;> omega)
  | (show (-(2 ^ 64) < _ ∧ _) ∨ _; (first | (left; constructor <;> omega) | (right; constructor <;> omega))) | (show (0 : Int) ≤ _ ∧ _ ∧ _; refine ⟨by omega, by omega, by decide⟩)))
/-- what stands at an index -/
local macro_rules | `(tactic| walk_at "at") => `(tactic| first | rfl | assumption)
/-- what stands at an address -/
local macro_rules | `(tactic| walk_at "hp") => `(tactic| first | assumption | exact upd_same | ((refine' Eq.trans (upd_ne ?hn) ?hm); (case hm => walk_at "hp"); (case hn => walk_at "ne")))
/-- two places are two -/
local macro_rules | `(tactic| walk_at "ne") => `(tactic| first
  | assumption | exact Ne.symm (by assumption)
  | ((refine' ne_of_none ?ha ?hb); (case hb => assumption); (case ha => walk_at "hp")) | ((refine' Ne.symm (ne_of_none ?ha ?hb)); (case hb => assumption); (case ha => walk_at "hp")))
/-- what a dict tells -/
local macro_rules | `(tactic| walk_at "dg") => `(tactic| first | assumption)
/-- a length -/
local macro_rules | `(tactic| walk_at "sz") => `(tactic| first | (show _ ≤ sizeLine; decide) | (show _ < sizeLine; decide) | assumption | exact szlt (by simp) | exact szle (by simp))
/-- a list or tuple that stands -/
local macro_rules | `(tactic| walk_at "lk") => `(tactic| first | assumption | exact SqL.of (by assumption) | exact SqT.of (by assumption) | exact SqL.of upd_same | exact SqT.of upd_same | (refine' FzL.sq ?hm; (case hm => walk_at "fz")))
/-- a list that nobody writes -/
local macro_rules | `(tactic| walk_at "fz") => `(tactic| first | assumption | ((refine' FzL.uw ?hm ?hx); (case hx => walk_at "hp"); (case hm => walk_at "fz")) | ((refine' FzL.nw ?hm ?hx); (case hx => assumption); (case hm => walk_at "fz")))
/-- as far as it goes by itself -/
local macro_rules | `(tactic| walk_at "g") => `(tactic| repeat walk_at "g1")
/-- the body's reading, its places in short -/
local macro_rules | `(tactic| walk_at "go") => `(tactic| ((try dsimp only [cxOf, Cx.nox, Cx.wish]); walk_at "g"))
namespace K3
open PySem PySem.Spec PyProof.Rows L2 Bq
/-! ### the dice -/
structure DiceAt (K : PySem.W.Frag) (H : Hp) (d sc : Addr) (ns : List Int) (pos mix dig : Int) : Prop where
  h : H d = some (.lst [.ref sc, .int pos, .int mix, .int dig])
  s : FzL K H sc (ns.map V.int)
  n : ns.length ≤ 63
  p0 : 0 ≤ pos
  m0 : 0 ≤ mix
  m1 : mix < 2147483647
  g0 : 0 ≤ dig
def Dice (K : PySem.W.Frag) (H : Hp) (d : Addr) : Prop := ∃ sc ns pos mix dig, DiceAt K H d sc ns pos mix dig
theorem Dice.ch {K : PySem.W.Frag} {S : List Addr} {H H1 : Hp} {d : Addr} (x : Dice K H d) (c : Ch K S H H1) (n : d ∉ S) : Dice K H1 d := by
  obtain ⟨sc, ns, pos, mix, dig, x⟩ := x
  exact ⟨sc, ns, pos, mix, dig, c.up _ _ x.h n, x.s.kt c.kt, x.n, x.p0, x.m0, x.m1, x.g0⟩
theorem Dice.nw {K : PySem.W.Frag} {H : Hp} {d p : Addr} {o : HO} (x : Dice K H d) (n : H p = none) : Dice K (upd H p o) d := x.ch (S := []) (Ch.new n) (by simp)
theorem Dice.ne {K : PySem.W.Frag} {H : Hp} {d p : Addr} (x : Dice K H d) (n : H p = none) : p ≠ d := by
  obtain ⟨_, _, _, _, _, x⟩ := x
  exact (ne_of_none x.h n).symm
theorem notin1 {a b : Addr} (h : a ≠ b) : a ∉ [b] := by simpa using h
/-- the dice written -/
theorem DiceAt.wr {K : PySem.W.Frag} {H : Hp} {d sc : Addr} {ns : List Int} {pos mix dig pos' mix' dig' : Int} (x : DiceAt K H d sc ns pos mix dig) (a : 0 ≤ pos') (b : 0 ≤ mix') (c : mix' < 2147483647) (e : 0 ≤ dig') :
    DiceAt K (upd H d (.lst [.ref sc, .int pos', .int mix', .int dig'])) d sc ns pos' mix' dig' :=
  ⟨upd_same, x.s.kt (Ch.wrL (K := K) (S := [d]) x.h (by simp)).kt, x.n, a, b, c, e⟩
def spNext (K : PySem.W.Frag) : Sp := fun vs H Q _ => ∃ d m, vs = [.ref d, .int m] ∧ Dice K H d ∧ 0 < m ∧ m < 1073741824 ∧
  ∀ H' n, Ch K [d] H H' → Dice K H' d → 0 ≤ n → n < m → Q (.int n) H'
section
variable {P : Program} {w : World} {K : PySem.W.Frag} {mg : Str → Option Value} {base : Heap}
theorem fn_next (C : Cn w K mg base) : Fn P w K mg base CX0 1 "_law_next" ["_law_dice_here", "_law_many"] (spNext K) := C.f_law_next fun fd F => by
  refine F.ok (CX := CX0) sc_law_next (fun vs H Q E h => ?_) (fun cdv A outer s H vs Q E hr h => ?_)
  · obtain ⟨d, m, rfl, _⟩ := h
    rfl
  · obtain ⟨d, m, rfl, ⟨sc, ns, pos, mix, dig, hd⟩, m0, m1, q⟩ := h
    refine ⟨_, PSs.nox (pss_cons (ps_if (pt_cmpR op_gt (pe_ix ix_list (pv 0) pe_int (fun _ _ => rfl)) pe_int (nomark _)) (pss_cons (ps_set (i := 2) sc_law_next.nd rfl (Or.inl rfl) (pe_op op_mod (pe_ix ix_list (pv 0) pe_int (fun _ _ => rfl)) (pv 1)))
      (pss_cons (ps_asg (pe_op op_fdiv (pe_ix ix_list (pv 0) pe_int (fun _ _ => rfl)) (pv 1)) (pg_sub (pv 0) pe_int set_list))
      (pss_one (ps_ret (pv 2))))) pss_nil)
      (pss_cons (ps_asg (pe_op op_add (pe_ix ix_list (pv 0) pe_int (fun _ _ => rfl)) pe_int) (pg_sub (pv 0) pe_int set_list))
      (pss_cons (ps_if (pt_cmpR op_le (pe_ix ix_list (pv 0) pe_int (fun _ _ => rfl)) (pe_callB call_len_seq (by rfl) (C.m_len) PySem.boot_len (pa_cons (pe_ix ix_list (pv 0) pe_int (fun _ _ => rfl)) pa_nil)) (nomark _)) (pss_cons (ps_set (i := 3) sc_law_next.nd rfl (Or.inl rfl) (pe_ix ix_list (pe_ix ix_list (pv 0) pe_int (fun _ _ => rfl)) (pe_op op_sub (pe_ix ix_list (pv 0) pe_int (fun _ _ => rfl)) pe_int) (fun _ _ => rfl)))
      (pss_cons (ps_asg (pe_ifExp (pt_cmpR op_ge (pv 3) (pe_op op_pow pe_int pe_int) (nomark _)) (pe_op op_fdiv (pv 3) (pv 1)) pe_int) (pg_sub (pv 0) pe_int set_list))
      (pss_one (ps_ret (pe_op op_mod (pv 3) (pv 1)))))) pss_nil)
      (pss_cons (ps_asg (pe_op op_mod (pe_op op_mul (pe_ix ix_list (pv 0) pe_int (fun _ _ => rfl)) pe_int) pe_int) (pg_sub (pv 0) pe_int set_list))
      (pss_one (ps_ret (pe_op op_mod (pe_op op_fdiv (pe_ix ix_list (pv 0) pe_int (fun _ _ => rfl)) pe_int) (pv 1)))))))), ?_⟩
    have h0 := hd.h
    have s0 := hd.s
    walk_at "go"
    refine iteB (fun h => ?_) (fun h => ?_)
    · walk_at "g"
      refine q _ _ (Ch.wrL hd.h (by simp)) ⟨_, _, _, _, _, hd.wr (dig' := dig / m) hd.p0 hd.m0 hd.m1 (Int.ediv_nonneg hd.g0 (by omega))⟩ (Int.emod_nonneg _ (by omega)) (Int.emod_lt_of_pos _ m0)
    · walk_at "g"
      refine iteB (fun h2 => ?_) (fun h2 => ?_)
      · have h3 := of_decide_eq_true h2
        rw [List.length_map] at h3
        have h4 := hd.p0
        have h5 : atI (ns.map V.int) (pos + 1 - 1) = some (V.int (ns.getD pos.toNat 0)) := at_of (j := pos.toNat) (by omega) (by
          have h6 : pos.toNat < ns.length := by omega
          rw [List.getElem?_map, List.getElem?_eq_getElem h6, List.getD_eq_getElem?_getD, List.getElem?_eq_getElem h6]
          rfl)
        generalize ns.getD pos.toNat 0 = cell at h5
        walk_at "g"
        have h7 : ∀ g : Int, 0 ≤ g → Dice K (upd (upd H d (.lst [.ref sc, .int (pos + 1), .int mix, .int dig])) d (.lst [.ref sc, .int (pos + 1), .int mix, .int g])) d := fun g hg =>
          ⟨_, _, _, _, _, (hd.wr (pos' := pos + 1) (by omega) hd.m0 hd.m1 hd.g0).wr (by omega) hd.m0 hd.m1 hg⟩
        refine iteB (fun h8 => ?_) (fun h8 => ?_)
        · walk_at "g"
          have h9 : (10 : Int) ^ Int.toNat 18 ≤ cell := of_decide_eq_true h8
          have h10 : (0 : Int) ≤ 10 ^ Int.toNat 18 := by decide
          exact q _ _ ((Ch.wrL hd.h (by simp)).trans (Ch.wrL upd_same (by simp))) (h7 _ (Int.ediv_nonneg (by omega) (by omega))) (Int.emod_nonneg _ (by omega)) (Int.emod_lt_of_pos _ m0)
        · walk_at "g"
          exact q _ _ ((Ch.wrL hd.h (by simp)).trans (Ch.wrL upd_same (by simp))) (h7 0 (by omega)) (Int.emod_nonneg _ (by omega)) (Int.emod_lt_of_pos _ m0)
      · walk_at "g"
        have h4 := hd.p0
        exact q _ _ ((Ch.wrL hd.h (by simp)).trans (Ch.wrL upd_same (by simp))) ⟨_, _, _, _, _, (hd.wr (pos' := pos + 1) (by omega) hd.m0 hd.m1 hd.g0).wr (by omega) (Int.emod_nonneg _ (by omega)) (Int.emod_lt_of_pos _ (by omega)) hd.g0⟩ (Int.emod_nonneg _ (by omega)) (Int.emod_lt_of_pos _ m0)
def spDice (K : PySem.W.Frag) : Sp := fun vs H Q _ => ∃ (sc : Addr) (ns : List Int), vs = [.ref sc] ∧ FzL K H sc (ns.map V.int) ∧ ns.length ≤ 63 ∧ ∀ H' d, Ch K [] H H' → H d = none → Dice K H' d → Q (.ref d) H'
theorem fn_dice (C : Cn w K mg base) : Fn P w K mg base CX0 1 "_law_dice" ["_law_script"] (spDice K) := C.f_law_dice fun fd F => by
  refine F.ok (CX := CX0) sc_law_dice (fun vs H Q E h => ?_) (fun cdv A outer s H vs Q E hr h => ?_)
  · obtain ⟨sc, ns, rfl, _⟩ := h
    rfl
  · obtain ⟨sc, ns, rfl, hs, hl, q⟩ := h
    refine ⟨_, PSs.nox (pss_cons (ps_set (i := 1) sc_law_dice.nd rfl (Or.inl rfl) pe_int)
      (pss_cons (ps_for PassesOwn.never rfl (pi_list (pv 0)) (pg_name (i := 2) sc_law_dice.nd rfl (Or.inl rfl)) (pss_one (ps_set (i := 1) sc_law_dice.nd rfl (Or.inl rfl) (pe_op op_mod (pe_op op_add (pe_op op_add (pe_op op_mul (pv 1) pe_int) (pe_op op_mul (pe_op op_mod (pv 2) pe_int) pe_int)) pe_int) pe_int))))
      (pss_one (ps_ret (pe_lst (pa_cons (pv 0) (pa_cons pe_int (pa_cons (pe_op op_mul (pv 1) (pe_callTy call_int1 (by rfl) (C.m_int) (by decide +kernel) (pa_cons (pe_cmpR op_gt (pe_callB call_len_seq (by rfl) (C.m_len) PySem.boot_len (pa_cons (pv 0) pa_nil)) pe_int (nomark _)) pa_nil))) (pa_cons pe_int pa_nil))))))))), ?_⟩
    walk_at "go"
    have hq := hs.sq
    refine ⟨⟨_, hq⟩, for_list (K := K) (a := sc) (xs := ns.map V.int) (fun i σ H2 => ∃ (m : Int) (v : Option V), σ = [some (.ref sc), some (.int m), v] ∧ H2 = H ∧ 0 ≤ m ∧ m < 2147483647) ⟨0, none, rfl, rfl, by omega, by omega⟩ (fun i σ H2 _ ⟨_, _, _, e, _⟩ => by rw [e]; exact hq) ?_ ?_⟩
    · rintro i y σ H2 hi ⟨m, v, rfl, rfl, m0, m1⟩
      obtain ⟨z, rfl⟩ : ∃ z, y = V.int z := by
        rw [List.getElem?_map] at hi
        cases e : ns[i]? with
        | none => rw [e] at hi; cases hi
        | some z => rw [e] at hi; exact ⟨z, (Option.some.inj hi).symm⟩
      have z0 := Int.emod_nonneg z (show (2147483647 : Int) ≠ 0 by decide)
      have z1 := Int.emod_lt_of_pos z (show (0 : Int) < 2147483647 by decide)
      walk_at "g"
      exact ⟨_, _, rfl, rfl, Int.emod_nonneg _ (by decide), Int.emod_lt_of_pos _ (by decide)⟩
    · rintro σ H2 ⟨m, v, rfl, rfl, m0, m1⟩
      walk_at "g"
      refine ⟨by show 4 ≤ sizeLine; decide, fun p np => ?_⟩
      refine q _ p (Ch.new np) np ⟨sc, ns, 0, _, 0, upd_same, hs.nw np, hl, by omega, ?_, ?_, by omega⟩
      · split <;> omega
      · split <;> omega
/-! ### parts -/
end
end K3
end

section
set_option maxRecDepth 100000
set_option maxHeartbeats 1000000
namespace Bq
open PySem
/-! ### what a program does, step by step -/
def innerP : Pt → List Pt
  | .num _ => []
  | .name _ => []
  | .bin _ a b => [a, b]
  | .nt a => [a]
  | .get a => [a]
  | .call _ ps => ps
def innerD : Dd → List Pt
  | .set _ p => [p]
  | .put c p => [c, p]
  | .say p => [p]
  | .ite p _ _ => [p]
  | .whl p _ => [p]
  | .ret p => [p]
  | .dop p => [p]
mutual
inductive DS where
  | nil
  | back (ns : List Int) (r : VS)
  | body (b : List Dd) (i : Nat) (r : DS)
  | again (p : Pt) (b : List Dd) (r : DS)
inductive VS where
  | part (t : Pt) (ws : List Int) (r : VS)
  | deed (d : Dd) (ws : List Int) (r : DS)
end
inductive Ctl where
  | look (p : Pt) (s : VS)
  | give (v : Int) (s : VS)
  | go (s : DS)
  | ret (v : Int) (s : DS)
inductive En where
  | worth (v : Int)
  | fault (w : Str)
  | long
structure St where
  said : List Int
  cells : List Int
  fuel : Nat
  calls : Nat
  names : List Int
  c : Ctl
structure Fi where
  said : List Int
  cells : List Int
  en : En
def ringI (n : Int) : Int := (n + 1000000000) % 2000000000 - 1000000000
/-- a pair's worth; none: the fault over -/
def pairI : Op → Int → Int → Option Int
  | .add, a, b => some (ringI (a + b))
  | .take, a, b => some (ringI (a - b))
  | .times, a, b => some (ringI (a * b))
  | .over, a, b => if b = 0 then none else some (ringI (Int.fdiv a b))
  | .rest, a, b => if b = 0 then none else some (Int.fmod a b)
  | .less, a, b => some (if a < b then 1 else 0)
  | .same, a, b => some (if a = b then 1 else 0)
def popB : DS → DS
  | .nil => .nil
  | .back ns r => .back ns r
  | .body _ _ r => popB r
  | .again _ _ r => popB r
/-- what a fun that is called begins with -/
def handed (fn : Fu) (ws : List Int) : List Int := ws ++ List.replicate (fn.nm - fn.ps) 0
inductive Step (fs : List Fu) : St → St → Prop where
  | num {sd ce fu ca nm n s} : Step fs ⟨sd, ce, fu, ca, nm, .look (.num n) s⟩ ⟨sd, ce, fu, ca, nm, .give n s⟩
  | name {sd ce fu ca nm i v s} (h : nm[i]? = some v) : Step fs ⟨sd, ce, fu, ca, nm, .look (.name i) s⟩ ⟨sd, ce, fu, ca, nm, .give v s⟩
  | first {sd ce fu ca nm p q s} (h : (innerP p)[0]? = some q) : Step fs ⟨sd, ce, fu, ca, nm, .look p s⟩ ⟨sd, ce, fu, ca, nm, .look q (.part p [] s)⟩
  | next {sd ce fu ca nm v p ws q s} (h : (innerP p)[ws.length + 1]? = some q) : Step fs ⟨sd, ce, fu, ca, nm, .give v (.part p ws s)⟩ ⟨sd, ce, fu, ca, nm, .look q (.part p (ws ++ [v]) s)⟩
  | nextD {sd ce fu ca nm v d ws q s} (h : (innerD d)[ws.length + 1]? = some q) : Step fs ⟨sd, ce, fu, ca, nm, .give v (.deed d ws s)⟩ ⟨sd, ce, fu, ca, nm, .look q (.deed d (ws ++ [v]) s)⟩
  | bin {sd ce fu ca nm a b op x y v s} (h : pairI op a b = some v) : Step fs ⟨sd, ce, fu, ca, nm, .give b (.part (.bin op x y) [a] s)⟩ ⟨sd, ce, fu, ca, nm, .give v s⟩
  | nt {sd ce fu ca nm a x s} : Step fs ⟨sd, ce, fu, ca, nm, .give a (.part (.nt x) [] s)⟩ ⟨sd, ce, fu, ca, nm, .give (if a = 0 then 1 else 0) s⟩
  | get {sd ce fu ca nm a x v s} (h0 : 0 ≤ a) (h : ce[a.toNat]? = some v) : Step fs ⟨sd, ce, fu, ca, nm, .give a (.part (.get x) [] s)⟩ ⟨sd, ce, fu, ca, nm, .give v s⟩
  | call0 {sd ce fu ca nm f fn s} (hf : fs[f]? = some fn) (hc : ca < 60) : Step fs ⟨sd, ce, fu + 1, ca, nm, .look (.call f []) s⟩ ⟨sd, ce, fu, ca + 1, handed fn [], .go (.body fn.body 0 (.back nm s))⟩
  | call {sd ce fu ca nm f ps fn v ws s} (hf : fs[f]? = some fn) (hc : ca < 60) (hl : ws.length + 1 = ps.length) :
      Step fs ⟨sd, ce, fu + 1, ca, nm, .give v (.part (.call f ps) ws s)⟩ ⟨sd, ce, fu, ca + 1, handed fn (ws ++ [v]), .go (.body fn.body 0 (.back nm s))⟩
  | set {sd ce fu ca nm i x v s} : Step fs ⟨sd, ce, fu, ca, nm, .give v (.deed (.set i x) [] s)⟩ ⟨sd, ce, fu, ca, nm.set i v, .go s⟩
  | put {sd ce fu ca nm x y a v s} (h0 : 0 ≤ a) (h : a < 64) : Step fs ⟨sd, ce, fu, ca, nm, .give v (.deed (.put x y) [a] s)⟩ ⟨sd, ce.set a.toNat v, fu, ca, nm, .go s⟩
  | say {sd ce fu ca nm x v s} : Step fs ⟨sd, ce, fu, ca, nm, .give v (.deed (.say x) [] s)⟩ ⟨sd ++ [v], ce, fu, ca, nm, .go s⟩
  | ite {sd ce fu ca nm x a b v s} : Step fs ⟨sd, ce, fu, ca, nm, .give v (.deed (.ite x a b) [] s)⟩ ⟨sd, ce, fu, ca, nm, .go (.body (if v = 0 then b else a) 0 s)⟩
  | whl0 {sd ce fu ca nm x b s} : Step fs ⟨sd, ce, fu, ca, nm, .give 0 (.deed (.whl x b) [] s)⟩ ⟨sd, ce, fu, ca, nm, .go s⟩
  | whl {sd ce fu ca nm x b v s} (h : v ≠ 0) : Step fs ⟨sd, ce, fu + 1, ca, nm, .give v (.deed (.whl x b) [] s)⟩ ⟨sd, ce, fu, ca, nm, .go (.body b 0 (.again x b s))⟩
  | ret {sd ce fu ca nm x v s} : Step fs ⟨sd, ce, fu, ca, nm, .give v (.deed (.ret x) [] s)⟩ ⟨sd, ce, fu, ca, nm, .ret v (popB s)⟩
  | dop {sd ce fu ca nm x v s} : Step fs ⟨sd, ce, fu, ca, nm, .give v (.deed (.dop x) [] s)⟩ ⟨sd, ce, fu, ca, nm, .go s⟩
  | goBack {sd ce fu ca nm ns s} : Step fs ⟨sd, ce, fu, ca + 1, nm, .go (.back ns s)⟩ ⟨sd, ce, fu, ca, ns, .give 0 s⟩
  | retBack {sd ce fu ca nm ns v s} : Step fs ⟨sd, ce, fu, ca + 1, nm, .ret v (.back ns s)⟩ ⟨sd, ce, fu, ca, ns, .give v s⟩
  | deed {sd ce fu ca nm b i d q s} (h : b[i]? = some d) (hq : (innerD d)[0]? = some q) : Step fs ⟨sd, ce, fu, ca, nm, .go (.body b i s)⟩ ⟨sd, ce, fu, ca, nm, .look q (.deed d [] (.body b (i + 1) s))⟩
  | over {sd ce fu ca nm b i s} (h : b.length ≤ i) : Step fs ⟨sd, ce, fu, ca, nm, .go (.body b i s)⟩ ⟨sd, ce, fu, ca, nm, .go s⟩
  | again {sd ce fu ca nm p b s} : Step fs ⟨sd, ce, fu, ca, nm, .go (.again p b s)⟩ ⟨sd, ce, fu, ca, nm, .look p (.deed (.whl p b) [] s)⟩
inductive Ends (fs : List Fu) : St → Fi → Prop where
  | go {sd ce fu nm} : Ends fs ⟨sd, ce, fu, 0, nm, .go .nil⟩ ⟨sd, ce, .worth 0⟩
  | ret {sd ce fu nm v} : Ends fs ⟨sd, ce, fu, 0, nm, .ret v .nil⟩ ⟨sd, ce, .worth v⟩
  | bin {sd ce fu ca nm a b op x y s} (h : pairI op a b = none) : Ends fs ⟨sd, ce, fu, ca, nm, .give b (.part (.bin op x y) [a] s)⟩ ⟨sd, ce, .fault "over"⟩
  | get {sd ce fu ca nm a x s} (h : ¬ (0 ≤ a ∧ a < 64)) : Ends fs ⟨sd, ce, fu, ca, nm, .give a (.part (.get x) [] s)⟩ ⟨sd, ce, .fault "cell"⟩
  | put {sd ce fu ca nm x y a v s} (h : ¬ (0 ≤ a ∧ a < 64)) : Ends fs ⟨sd, ce, fu, ca, nm, .give v (.deed (.put x y) [a] s)⟩ ⟨sd, ce, .fault "cell"⟩
  | deep0 {sd ce fu ca nm f s} (hc : 60 ≤ ca) : Ends fs ⟨sd, ce, fu, ca, nm, .look (.call f []) s⟩ ⟨sd, ce, .fault "deep"⟩
  | deep {sd ce fu ca nm f ps v ws s} (hc : 60 ≤ ca) (hl : ws.length + 1 = ps.length) : Ends fs ⟨sd, ce, fu, ca, nm, .give v (.part (.call f ps) ws s)⟩ ⟨sd, ce, .fault "deep"⟩
  | long0 {sd ce ca nm f s} (hc : ca < 60) : Ends fs ⟨sd, ce, 0, ca, nm, .look (.call f []) s⟩ ⟨sd, ce, .long⟩
  | long {sd ce ca nm f ps v ws s} (hc : ca < 60) (hl : ws.length + 1 = ps.length) : Ends fs ⟨sd, ce, 0, ca, nm, .give v (.part (.call f ps) ws s)⟩ ⟨sd, ce, .long⟩
  | longW {sd ce ca nm x b v s} (h : v ≠ 0) : Ends fs ⟨sd, ce, 0, ca, nm, .give v (.deed (.whl x b) [] s)⟩ ⟨sd, ce, .long⟩
/-! ### what is well made -/
def InR (v : Int) : Prop := -1000000000 ≤ v ∧ v < 1000000000
mutual
def wfVS (ps : List Nat) : Nat → Nat → VS → Prop
  | nm, c, .part t ws r => ws.length < (innerP t).length ∧ wfP nm ps t ∧ (∀ v ∈ ws, InR v) ∧ wfVS ps nm c r
  | nm, c, .deed d ws r => ws.length < (innerD d).length ∧ wfD nm ps 8 d ∧ szD d ≤ 190 ∧ (∀ v ∈ ws, InR v) ∧ wfDS ps nm c r
def wfDS (ps : List Nat) : Nat → Nat → DS → Prop
  | _, c, .nil => c = 0
  | _, c, .back ns r => ∃ c', c = c' + 1 ∧ (∀ v ∈ ns, InR v) ∧ ns.length ≤ 8 ∧ wfVS ps ns.length c' r
  | nm, c, .body b i r => i ≤ b.length ∧ wfBs nm ps 8 b ∧ szB b ≤ 190 ∧ wfDS ps nm c r
  | nm, c, .again p b r => wfD nm ps 8 (.whl p b) ∧ szD (.whl p b) ≤ 190 ∧ wfDS ps nm c r
end
def flat : DS → Prop
  | .nil => True
  | .back _ _ => True
  | _ => False
def wfC (ps : List Nat) (nm c : Nat) : Ctl → Prop
  | .look p s => wfP nm ps p ∧ wfVS ps nm c s
  | .give v s => InR v ∧ wfVS ps nm c s
  | .go s => wfDS ps nm c s
  | .ret v s => InR v ∧ flat s ∧ wfDS ps nm c s
structure WfSt (ps : List Nat) (st : St) : Prop where
  ce : st.cells.length = 64
  ceR : ∀ v ∈ st.cells, InR v
  nmR : ∀ v ∈ st.names, InR v
  n8 : st.names.length ≤ 8
  fu : st.fuel ≤ 3000
  ca : st.calls ≤ 60
  c : wfC ps st.names.length st.calls st.c
/-! ### how much is left -/
def remP (l : List Pt) (n : Nat) : Nat := szPs (l.drop n)
def bodies : Dd → Nat
  | .ite _ a b => szB a + szB b
  | _ => 0
mutual
def cV : VS → Nat
  | .part t ws r => 3 * remP (innerP t) (ws.length + 1) + 1 + ws.length + cV r
  | .deed d ws r => 3 * remP (innerD d) (ws.length + 1) + 3 * bodies d + 1 + ws.length + cD r
def cD : DS → Nat
  | .nil => 0
  | .back _ r => 3 + cV r
  | .body b i r => 3 * szB (b.drop i) + 1 + cD r
  | .again p b r => 3 * szD (.whl p b) + 1 + cD r
end
def cC : Ctl → Nat
  | .look p s => 3 * szP p + cV s
  | .give _ s => 2 + cV s
  | .go s => cD s
  | .ret _ s => cD s
def left (st : St) : Nat := 1200 * st.fuel + cC st.c
theorem szPs_drop : ∀ {l : List Pt} {n : Nat} {q : Pt}, l[n]? = some q → remP l n = szP q + remP l (n + 1)
  | [], n, q, h => by simp at h
  | p :: r, 0, q, h => by
    simp at h
    subst h
    rfl
  | p :: r, n + 1, q, h => by
    have h1 := szPs_drop (l := r) (n := n) (q := q) (by simpa using h)
    exact h1
theorem szB_drop : ∀ {l : List Dd} {n : Nat} {q : Dd}, l[n]? = some q → szB (l.drop n) = szD q + szB (l.drop (n + 1))
  | [], n, q, h => by simp at h
  | p :: r, 0, q, h => by
    simp at h
    subst h
    rfl
  | p :: r, n + 1, q, h => by
    have h1 := szB_drop (l := r) (n := n) (q := q) (by simpa using h)
    exact h1
theorem szB_drop_le : ∀ (l : List Dd) (n : Nat), szB (l.drop n) ≤ szB l
  | [], _ => by simp
  | p :: r, 0 => Nat.le_refl _
  | p :: r, n + 1 => by
    have := szB_drop_le r n
    simp only [List.drop_succ_cons, szB]
    omega
theorem remP_inner (p : Pt) : 1 + remP (innerP p) 0 = szP p := by
  cases p <;> simp [innerP, remP, szP, szPs] <;> omega
theorem remP_innerD (d : Dd) : 1 + remP (innerD d) 0 + bodies d ≤ szD d := by
  cases d <;> simp [innerD, remP, szD, szPs, bodies] <;> omega
theorem cD_popB : ∀ s : DS, cD (popB s) ≤ cD s
  | .nil => Nat.le_refl _
  | .back _ _ => Nat.le_refl _
  | .body _ _ r => by have := cD_popB r; simp only [popB, cD]; omega
  | .again _ _ r => by have := cD_popB r; simp only [popB, cD]; omega
theorem remP_len {l : List Pt} {n : Nat} (h : l.length ≤ n) : remP l n = 0 := by
  unfold remP
  rw [List.drop_eq_nil_of_le h]
  rfl
theorem wfPs_get {nm : Nat} {ps : List Nat} : ∀ {l : List Pt} {n : Nat} {q : Pt}, wfPs nm ps l → l[n]? = some q → wfP nm ps q
  | [], n, q, _, h => by simp at h
  | p :: r, 0, q, w, h => by simp at h; subst h; exact w.1
  | p :: r, n + 1, q, w, h => wfPs_get (l := r) w.2 (by simpa using h)
theorem wfBs_get {nm : Nat} {ps : List Nat} {m : Nat} : ∀ {l : List Dd} {n : Nat} {q : Dd}, wfBs nm ps m l → l[n]? = some q → wfD nm ps m q
  | [], n, q, _, h => by simp at h
  | p :: r, 0, q, w, h => by
    simp at h
    subst h
    cases m with
    | zero => exact w.elim
    | succ m => exact wfD_mono (Nat.le_succ _) w.1
  | p :: r, n + 1, q, w, h => by
    cases m with
    | zero => exact w.elim
    | succ m => exact wfBs_get (l := r) w.2 (by simpa using h)
theorem wfP_inner {nm : Nat} {ps : List Nat} {p q : Pt} {n : Nat} (w : wfP nm ps p) (h : (innerP p)[n]? = some q) : wfP nm ps q := by
  refine wfPs_get (l := innerP p) ?_ h
  cases p with
  | num => trivial
  | name => trivial
  | bin => exact ⟨w.1, w.2, trivial⟩
  | nt => exact ⟨w, trivial⟩
  | get => exact ⟨w, trivial⟩
  | call => exact w.2
theorem wfD_inner {nm m : Nat} {ps : List Nat} {d : Dd} {q : Pt} {n : Nat} (w : wfD nm ps m d) (h : (innerD d)[n]? = some q) : wfP nm ps q := by
  refine wfPs_get (l := innerD d) ?_ h
  cases d with
  | set => exact ⟨w.2.1, trivial⟩
  | put => exact ⟨w.1, w.2.1, trivial⟩
  | say => exact ⟨w.1, trivial⟩
  | ite => exact ⟨w.1, trivial⟩
  | whl => exact ⟨w.1, trivial⟩
  | ret => exact ⟨w.1, trivial⟩
  | dop => exact ⟨w.1, trivial⟩
theorem szB_get : ∀ {l : List Dd} {n : Nat} {q : Dd}, l[n]? = some q → szD q ≤ szB l
  | [], n, q, h => by simp at h
  | p :: r, 0, q, h => by simp at h; subst h; simp only [szB]; omega
  | p :: r, n + 1, q, h => by
    have := szB_get (l := r) (n := n) (q := q) (by simpa using h)
    simp only [szB]
    omega
theorem ringR (n : Int) : InR (ringI n) := by
  unfold InR ringI
  omega
theorem pairR {op : Op} {a b v : Int} (ha : InR a) (hb : InR b) (h : pairI op a b = some v) : InR v := by
  unfold InR at *
  cases op with
  | add => cases h; exact ringR _
  | take => cases h; exact ringR _
  | times => cases h; exact ringR _
  | over =>
    simp only [pairI] at h
    split at h
    · cases h
    · cases h; exact ringR _
  | rest =>
    simp only [pairI] at h
    split at h
    · cases h
    · rename_i hn
      cases h
      rcases Int.lt_or_gt_of_ne hn with hb' | hb'
      · have h0 := Int.neg_fmod_neg (-a) (-b)
        rw [Int.neg_neg, Int.neg_neg] at h0
        have h1 := Int.fmod_nonneg_of_pos (-a) (b := -b) (by omega)
        have h2 := Int.fmod_lt_of_pos (-a) (b := -b) (by omega)
        omega
      · have h1 := Int.fmod_nonneg_of_pos a hb'
        have h2 := Int.fmod_lt_of_pos a hb'
        omega
  | less =>
    simp only [pairI] at h
    cases h
    split <;> omega
  | same =>
    simp only [pairI] at h
    cases h
    split <;> omega
theorem wfDS_popB {ps : List Nat} {nm c : Nat} : ∀ {s : DS}, wfDS ps nm c s → flat (popB s) ∧ wfDS ps nm c (popB s)
  | .nil, h => ⟨trivial, h⟩
  | .back _ _, h => ⟨trivial, h⟩
  | .body _ _ r, h => wfDS_popB (s := r) h.2.2.2
  | .again _ _ r, h => wfDS_popB (s := r) h.2.2
theorem inR_app {ws : List Int} {v : Int} (h : ∀ x ∈ ws, InR x) (hv : InR v) : ∀ x ∈ ws ++ [v], InR x := by
  intro x hx
  rcases List.mem_append.mp hx with hx | hx
  · exact h x hx
  · simp at hx
    subst hx
    exact hv
theorem inR_set {ws : List Int} {v : Int} {i : Nat} (h : ∀ x ∈ ws, InR x) (hv : InR v) : ∀ x ∈ ws.set i v, InR x := by
  intro x hx
  rcases List.mem_or_eq_of_mem_set hx with hx | hx
  · exact h x hx
  · subst hx; exact hv
theorem inR_handed {fn : Fu} {ws : List Int} (h : ∀ x ∈ ws, InR x) : ∀ x ∈ handed fn ws, InR x := by
  intro x hx
  rcases List.mem_append.mp hx with hx | hx
  · exact h x hx
  · rw [(List.mem_replicate.mp hx).2]
    unfold InR
    omega
structure WfPs (ps : List Nat) (fs : List Fu) : Prop where
  m : fs.map Fu.ps = ps
  pn : ∀ f ∈ fs, f.ps ≤ f.nm
  n8 : ∀ f ∈ fs, f.nm ≤ 8
  wb : ∀ f ∈ fs, wfBs f.nm ps 8 f.body
  sz : ∀ f ∈ fs, szB f.body ≤ 190
theorem handed_len {fn : Fu} {ws : List Int} (h : ws.length = fn.ps) (hp : fn.ps ≤ fn.nm) : (handed fn ws).length = fn.nm := by
  unfold handed
  rw [List.length_append, List.length_replicate]
  omega
theorem WfPs.get {ps : List Nat} {fs : List Fu} (w : WfPs ps fs) {f : Nat} {fn : Fu} {n : Nat} (h : fs[f]? = some fn) (hp : ps[f]? = some n) : n = fn.ps := by
  rw [← w.m, List.getElem?_map, h] at hp
  exact (Option.some.inj hp).symm
theorem lt_of_some {α : Type} {l : List α} {n : Nat} {x : α} (h : l[n]? = some x) : n < l.length := by
  rcases Nat.lt_or_ge n l.length with q | q
  · exact q
  · rw [List.getElem?_eq_none q] at h
    cases h
theorem Step.wf {ps : List Nat} {fs : List Fu} (W : WfPs ps fs) {st st' : St} (w : WfSt ps st) (h : Step fs st st') : WfSt ps st' := by
  obtain ⟨ce, ceR, nmR, n8, fu, ca, c⟩ := w
  cases h with
  | num => exact ⟨ce, ceR, nmR, n8, fu, ca, ⟨by have := c.1; unfold wfP at this; unfold InR; omega, c.2⟩⟩
  | name h => exact ⟨ce, ceR, nmR, n8, fu, ca, ⟨nmR _ (List.mem_of_getElem? h), c.2⟩⟩
  | first h => exact ⟨ce, ceR, nmR, n8, fu, ca, ⟨wfP_inner c.1 h, lt_of_some h, c.1, by simp, c.2⟩⟩
  | next h => exact ⟨ce, ceR, nmR, n8, fu, ca, ⟨wfP_inner c.2.2.1 h, by have := lt_of_some h; rw [List.length_append]; exact this, c.2.2.1, inR_app c.2.2.2.1 c.1, c.2.2.2.2⟩⟩
  | nextD h => exact ⟨ce, ceR, nmR, n8, fu, ca, ⟨wfD_inner c.2.2.1 h, by have := lt_of_some h; rw [List.length_append]; exact this, c.2.2.1, c.2.2.2.1, inR_app c.2.2.2.2.1 c.1, c.2.2.2.2.2⟩⟩
  | bin h => exact ⟨ce, ceR, nmR, n8, fu, ca, ⟨pairR (c.2.2.2.1 _ (by simp)) c.1 h, c.2.2.2.2⟩⟩
  | nt => exact ⟨ce, ceR, nmR, n8, fu, ca, ⟨by unfold InR; split <;> omega, c.2.2.2.2⟩⟩
  | get h0 h => exact ⟨ce, ceR, nmR, n8, fu, ca, ⟨ceR _ (List.mem_of_getElem? h), c.2.2.2.2⟩⟩
  | call0 hf hc =>
    have hm := List.mem_of_getElem? hf
    have hp := W.get hf c.1.1
    have hl := handed_len (ws := []) hp (W.pn _ hm)
    refine ⟨ce, ceR, inR_handed (by simp), by rw [hl]; exact W.n8 _ hm, by simp only at fu ⊢; omega, by simp only at ca ⊢; omega, ?_⟩
    exact ⟨Nat.zero_le _, by rw [hl]; exact W.wb _ hm, W.sz _ hm, _, rfl, nmR, n8, c.2⟩
  | @call _ _ _ _ _ f qs fn v ws s hf hc hl0 =>
    have hm := List.mem_of_getElem? hf
    have hp := W.get hf c.2.2.1.1
    have hl := handed_len (ws := ws ++ [v]) (by rw [List.length_append]; exact hl0.trans hp) (W.pn _ hm)
    refine ⟨ce, ceR, inR_handed (inR_app c.2.2.2.1 c.1), by rw [hl]; exact W.n8 _ hm, by simp only at fu ⊢; omega, by simp only at ca ⊢; omega, ?_⟩
    exact ⟨Nat.zero_le _, by rw [hl]; exact W.wb _ hm, W.sz _ hm, _, rfl, nmR, n8, c.2.2.2.2⟩
  | set => exact ⟨ce, ceR, inR_set nmR c.1, by simpa using n8, fu, ca, by
    show wfDS ps _ _ _
    rw [List.length_set]
    exact c.2.2.2.2.2⟩
  | put h0 h => exact ⟨by simpa using ce, inR_set ceR c.1, nmR, n8, fu, ca, c.2.2.2.2.2⟩
  | say => exact ⟨ce, ceR, nmR, n8, fu, ca, c.2.2.2.2.2⟩
  | @ite _ _ _ _ _ x a b v s =>
    have w := c.2.2.1
    have z := c.2.2.2.1
    simp only [szD] at z
    refine ⟨ce, ceR, nmR, n8, fu, ca, ?_⟩
    split
    · exact ⟨Nat.zero_le _, w.2.2.2, by omega, c.2.2.2.2.2⟩
    · exact ⟨Nat.zero_le _, w.2.2.1, by omega, c.2.2.2.2.2⟩
  | whl0 => exact ⟨ce, ceR, nmR, n8, fu, ca, c.2.2.2.2.2⟩
  | whl h =>
    have w := c.2.2.1
    have z := c.2.2.2.1
    have z' := z
    simp only [szD] at z'
    exact ⟨ce, ceR, nmR, n8, by simp only at fu ⊢; omega, ca, ⟨Nat.zero_le _, w.2.2, by omega, w, z, c.2.2.2.2.2⟩⟩
  | ret =>
    have w := wfDS_popB c.2.2.2.2.2
    exact ⟨ce, ceR, nmR, n8, fu, ca, ⟨c.1, w.1, w.2⟩⟩
  | dop => exact ⟨ce, ceR, nmR, n8, fu, ca, c.2.2.2.2.2⟩
  | @goBack _ _ _ ca' _ ns _ =>
    obtain ⟨c', e, hn, h8, hw⟩ := c
    obtain rfl : ca' = c' := Nat.succ.inj e
    exact ⟨ce, ceR, hn, h8, fu, by simp only at ca ⊢; omega, ⟨by unfold InR; omega, hw⟩⟩
  | @retBack _ _ _ ca' _ ns _ _ =>
    obtain ⟨hv, _, c', e, hn, h8, hw⟩ := c
    obtain rfl : ca' = c' := Nat.succ.inj e
    exact ⟨ce, ceR, hn, h8, fu, by simp only at ca ⊢; omega, ⟨hv, hw⟩⟩
  | deed h hq =>
    have w := wfBs_get c.2.1 h
    have := szB_get h
    exact ⟨ce, ceR, nmR, n8, fu, ca, ⟨wfD_inner w hq, lt_of_some hq, w, Nat.le_trans this c.2.2.1, by simp, lt_of_some h, c.2.1, c.2.2.1, c.2.2.2⟩⟩
  | over h => exact ⟨ce, ceR, nmR, n8, fu, ca, c.2.2.2⟩
  | again => exact ⟨ce, ceR, nmR, n8, fu, ca, ⟨c.1.1, by simp [innerD], c.1, c.2.1, by simp, c.2.2⟩⟩
/-- each step leaves less, and says no more than it leaves less -/
theorem Step.lt {ps : List Nat} {fs : List Fu} (W : WfPs ps fs) {st st' : St} (w : WfSt ps st) (h : Step fs st st') : left st' < left st ∧ st'.said.length + left st' ≤ st.said.length + left st := by
  obtain ⟨ce, ceR, nmR, n8, fu, ca, c⟩ := w
  cases h with
  | num => simp only [left, cC, szP]; omega
  | name h => simp only [left, cC, szP]; omega
  | @first _ _ _ _ _ p q s h =>
    have h1 := szPs_drop h
    have h2 := remP_inner p
    simp only [left, cC, cV, List.length_nil]
    rw [Nat.zero_add] at h1 ⊢
    omega
  | next h =>
    have h1 := szPs_drop h
    simp only [left, cC, cV, List.length_append, List.length_cons, List.length_nil, Nat.zero_add]
    omega
  | nextD h =>
    have h1 := szPs_drop h
    simp only [left, cC, cV, List.length_append, List.length_cons, List.length_nil, Nat.zero_add]
    omega
  | bin h => simp only [left, cC, cV, List.length_cons, List.length_nil]; omega
  | nt => simp only [left, cC, cV, List.length_cons, List.length_nil]; omega
  | get h0 h => simp only [left, cC, cV, List.length_cons, List.length_nil]; omega
  | call0 hf hc =>
    have hs := W.sz _ (List.mem_of_getElem? hf)
    simp only [left, cC, cV, cD, szP, szPs, List.drop_zero, Nat.mul_add]
    omega
  | call hf hc hl =>
    have hs := W.sz _ (List.mem_of_getElem? hf)
    simp only [left, cC, cV, cD, List.drop_zero, Nat.mul_add]
    omega
  | set => simp only [left, cC, cV, List.length_nil]; omega
  | put => simp only [left, cC, cV, List.length_cons, List.length_nil]; omega
  | say => simp only [left, cC, cV, List.length_append, List.length_cons, List.length_nil]; omega
  | ite =>
    simp only [left, cC, cV, cD, bodies, List.length_nil, List.drop_zero]
    split <;> omega
  | whl0 => simp only [left, cC, cV, List.length_nil]; omega
  | whl h =>
    have z := c.2.2.2.1
    have z' := z
    simp only [szD] at z'
    simp only [left, cC, cV, cD, List.drop_zero, Nat.mul_add]
    omega
  | @ret _ _ _ _ _ _ _ s =>
    have := cD_popB s
    simp only [left, cC, cV, List.length_nil]
    omega
  | dop => simp only [left, cC, cV, List.length_nil]; omega
  | goBack => simp only [left, cC, cD]; omega
  | retBack => simp only [left, cC, cD]; omega
  | @deed _ _ _ _ _ _ _ d _ _ h hq =>
    have h1 := szB_drop h
    have h2 := szPs_drop hq
    have h3 := remP_innerD d
    simp only [left, cC, cV, cD, List.length_nil]
    rw [Nat.zero_add] at h2 ⊢
    omega
  | over h => simp only [left, cC, cD]; omega
  | again => simp only [left, cC, cV, cD, szD, bodies, innerD, List.length_nil, remP]; simp [szPs]; omega
end Bq
end

section
set_option maxRecDepth 100000
set_option maxHeartbeats 1000000
namespace Bq
open PySem
/-! ### how the program goes about it: frames with things to do -/
inductive Th where
  | p (p : Pt)
  | d (d : Dd)
def innerT : Th → List Pt
  | .p p => innerP p
  | .d d => innerD d
structure Fr where
  names : List Int
  todo : List (Bool × Th)
  worths : List Int
structure PT where
  said : List Int
  cells : List Int
  fuel : Nat
  fr : List Fr
  told : Int
def asP (l : List Pt) : List (Bool × Th) := l.map fun p => (false, .p p)
def asD (l : List Dd) : List (Bool × Th) := l.map fun d => (false, .d d)
/-- a worth told to the frame around -/
def leaveF (v : Int) (told : Int) : List Fr → List Fr × Int
  | [] => ([], v)
  | g :: r => (⟨g.names, g.todo, g.worths ++ [v]⟩ :: r, told)
inductive PStep (fs : List Fu) : PT → PT → Prop where
  | leave {sd ce fu nm wo r tl} : PStep fs ⟨sd, ce, fu, ⟨nm, [], wo⟩ :: r, tl⟩ ⟨sd, ce, fu, (leaveF 0 tl r).1, (leaveF 0 tl r).2⟩
  | opn {sd ce fu nm t td wo r tl} : PStep fs ⟨sd, ce, fu, ⟨nm, (false, t) :: td, wo⟩ :: r, tl⟩ ⟨sd, ce, fu, ⟨nm, asP (innerT t) ++ (true, t) :: td, wo⟩ :: r, tl⟩
  | num {sd ce fu nm n td wo r tl} : PStep fs ⟨sd, ce, fu, ⟨nm, (true, .p (.num n)) :: td, wo⟩ :: r, tl⟩ ⟨sd, ce, fu, ⟨nm, td, wo ++ [n]⟩ :: r, tl⟩
  | name {sd ce fu nm i v td wo r tl} (h : nm[i]? = some v) : PStep fs ⟨sd, ce, fu, ⟨nm, (true, .p (.name i)) :: td, wo⟩ :: r, tl⟩ ⟨sd, ce, fu, ⟨nm, td, wo ++ [v]⟩ :: r, tl⟩
  | bin {sd ce fu nm op x y a b v td wo r tl} (ha : InR a) (hb : InR b) (h : pairI op a b = some v) : PStep fs ⟨sd, ce, fu, ⟨nm, (true, .p (.bin op x y)) :: td, wo ++ [a, b]⟩ :: r, tl⟩ ⟨sd, ce, fu, ⟨nm, td, wo ++ [v]⟩ :: r, tl⟩
  | nt {sd ce fu nm x a td wo r tl} : PStep fs ⟨sd, ce, fu, ⟨nm, (true, .p (.nt x)) :: td, wo ++ [a]⟩ :: r, tl⟩ ⟨sd, ce, fu, ⟨nm, td, wo ++ [if a = 0 then 1 else 0]⟩ :: r, tl⟩
  | get {sd ce fu nm x a v td wo r tl} (h0 : 0 ≤ a) (h : ce[a.toNat]? = some v) (h6 : ce.length = 64) : PStep fs ⟨sd, ce, fu, ⟨nm, (true, .p (.get x)) :: td, wo ++ [a]⟩ :: r, tl⟩ ⟨sd, ce, fu, ⟨nm, td, wo ++ [v]⟩ :: r, tl⟩
  | call {sd ce fu nm f ps fn ws td wo r tl} (hf : fs[f]? = some fn) (hc : r.length < 60) (hl : ws.length = ps.length) (hp : ws.length = fn.ps) :
      PStep fs ⟨sd, ce, fu + 1, ⟨nm, (true, .p (.call f ps)) :: td, wo ++ ws⟩ :: r, tl⟩ ⟨sd, ce, fu, ⟨handed fn ws, asD fn.body, []⟩ :: ⟨nm, td, wo⟩ :: r, tl⟩
  | set {sd ce fu nm i x v td wo r tl} (hi : i < nm.length) : PStep fs ⟨sd, ce, fu, ⟨nm, (true, .d (.set i x)) :: td, wo ++ [v]⟩ :: r, tl⟩ ⟨sd, ce, fu, ⟨nm.set i v, td, wo⟩ :: r, tl⟩
  | put {sd ce fu nm x y a v td wo r tl} (h0 : 0 ≤ a) (h : a < 64) (h6 : ce.length = 64) : PStep fs ⟨sd, ce, fu, ⟨nm, (true, .d (.put x y)) :: td, wo ++ [a, v]⟩ :: r, tl⟩ ⟨sd, ce.set a.toNat v, fu, ⟨nm, td, wo⟩ :: r, tl⟩
  | say {sd ce fu nm x v td wo r tl} : PStep fs ⟨sd, ce, fu, ⟨nm, (true, .d (.say x)) :: td, wo ++ [v]⟩ :: r, tl⟩ ⟨sd ++ [v], ce, fu, ⟨nm, td, wo⟩ :: r, tl⟩
  | ite {sd ce fu nm x a b v td wo r tl} : PStep fs ⟨sd, ce, fu, ⟨nm, (true, .d (.ite x a b)) :: td, wo ++ [v]⟩ :: r, tl⟩ ⟨sd, ce, fu, ⟨nm, asD (if v = 0 then b else a) ++ td, wo⟩ :: r, tl⟩
  | whl0 {sd ce fu nm x b td wo r tl} : PStep fs ⟨sd, ce, fu, ⟨nm, (true, .d (.whl x b)) :: td, wo ++ [0]⟩ :: r, tl⟩ ⟨sd, ce, fu, ⟨nm, td, wo⟩ :: r, tl⟩
  | whl {sd ce fu nm x b v td wo r tl} (h : v ≠ 0) : PStep fs ⟨sd, ce, fu + 1, ⟨nm, (true, .d (.whl x b)) :: td, wo ++ [v]⟩ :: r, tl⟩ ⟨sd, ce, fu, ⟨nm, asD b ++ (false, .d (.whl x b)) :: td, wo⟩ :: r, tl⟩
  | ret {sd ce fu nm x v td wo r tl} : PStep fs ⟨sd, ce, fu, ⟨nm, (true, .d (.ret x)) :: td, wo ++ [v]⟩ :: r, tl⟩ ⟨sd, ce, fu, (leaveF v tl r).1, (leaveF v tl r).2⟩
  | dop {sd ce fu nm x v td wo r tl} : PStep fs ⟨sd, ce, fu, ⟨nm, (true, .d (.dop x)) :: td, wo ++ [v]⟩ :: r, tl⟩ ⟨sd, ce, fu, ⟨nm, td, wo⟩ :: r, tl⟩
inductive PEnds (fs : List Fu) : PT → Fi → Prop where
  | over {sd ce fu v} : PEnds fs ⟨sd, ce, fu, [], v⟩ ⟨sd, ce, .worth v⟩
  | bin {sd ce fu nm op x y a b td wo r tl} (ha : InR a) (hb : InR b) (h : pairI op a b = none) : PEnds fs ⟨sd, ce, fu, ⟨nm, (true, .p (.bin op x y)) :: td, wo ++ [a, b]⟩ :: r, tl⟩ ⟨sd, ce, .fault "over"⟩
  | get {sd ce fu nm x a td wo r tl} (h : ¬ (0 ≤ a ∧ a < 64)) : PEnds fs ⟨sd, ce, fu, ⟨nm, (true, .p (.get x)) :: td, wo ++ [a]⟩ :: r, tl⟩ ⟨sd, ce, .fault "cell"⟩
  | put {sd ce fu nm x y a v td wo r tl} (h : ¬ (0 ≤ a ∧ a < 64)) : PEnds fs ⟨sd, ce, fu, ⟨nm, (true, .d (.put x y)) :: td, wo ++ [a, v]⟩ :: r, tl⟩ ⟨sd, ce, .fault "cell"⟩
  | deep {sd ce fu nm f ps ws td wo r tl} (hc : 60 ≤ r.length) (hl : ws.length = ps.length) : PEnds fs ⟨sd, ce, fu, ⟨nm, (true, .p (.call f ps)) :: td, wo ++ ws⟩ :: r, tl⟩ ⟨sd, ce, .fault "deep"⟩
  | long {sd ce nm f ps ws td wo r tl} (hc : r.length < 60) (hl : ws.length = ps.length) : PEnds fs ⟨sd, ce, 0, ⟨nm, (true, .p (.call f ps)) :: td, wo ++ ws⟩ :: r, tl⟩ ⟨sd, ce, .long⟩
  | longW {sd ce nm x b v td wo r tl} (h : v ≠ 0) : PEnds fs ⟨sd, ce, 0, ⟨nm, (true, .d (.whl x b)) :: td, wo ++ [v]⟩ :: r, tl⟩ ⟨sd, ce, .long⟩
def lenF (f : Fr) : Nat := f.todo.length + f.worths.length
structure Sm (T : PT) : Prop where
  said : T.said.length ≤ 8000000
  fr : ∀ f ∈ T.fr, lenF f ≤ 8000000
  n : T.fr.length ≤ 61
inductive PRun (fs : List Fu) : Nat → PT → Fi → Prop where
  | fin {T f} (s : Sm T) (h : PEnds fs T f) : PRun fs 0 T f
  | step {T T' n f} (s : Sm T) (h : PStep fs T T') (r : PRun fs n T' f) : PRun fs (n + 1) T f
/-! ### the one told by the other -/
mutual
def cvV : VS → List (Bool × Th) × List Int × List Fr
  | .part t ws r => (asP ((innerP t).drop (ws.length + 1)) ++ (true, .p t) :: (cvV r).1, (cvV r).2.1 ++ ws, (cvV r).2.2)
  | .deed d ws r => (asP ((innerD d).drop (ws.length + 1)) ++ (true, .d d) :: (cvD r).1, (cvD r).2.1 ++ ws, (cvD r).2.2)
def cvD : DS → List (Bool × Th) × List Int × List Fr
  | .nil => ([], [], [])
  | .back ns r => ([], [], ⟨ns, (cvV r).1, (cvV r).2.1⟩ :: (cvV r).2.2)
  | .body b i r => (asD (b.drop i) ++ (cvD r).1, (cvD r).2.1, (cvD r).2.2)
  | .again p b r => ((false, .d (.whl p b)) :: (cvD r).1, (cvD r).2.1, (cvD r).2.2)
end
def cvC (nm : List Int) : Ctl → List Fr × Int
  | .look p s => (⟨nm, (false, .p p) :: (cvV s).1, (cvV s).2.1⟩ :: (cvV s).2.2, 0)
  | .give v s => (⟨nm, (cvV s).1, (cvV s).2.1 ++ [v]⟩ :: (cvV s).2.2, 0)
  | .go s => (⟨nm, (cvD s).1, (cvD s).2.1⟩ :: (cvD s).2.2, 0)
  | .ret v s => leaveF v 0 (cvD s).2.2
def conv (st : St) : PT := ⟨st.said, st.cells, st.fuel, (cvC st.names st.c).1, (cvC st.names st.c).2⟩
theorem remP_le (l : List Pt) : l.length ≤ szPs l := by
  induction l with
  | nil => exact Nat.le_refl _
  | cons p r ih =>
    have : 1 ≤ szP p := by cases p <;> simp only [szP] <;> omega
    simp only [szPs, List.length_cons]
    omega
theorem szB_len (l : List Dd) : l.length ≤ szB l := by
  induction l with
  | nil => exact Nat.le_refl _
  | cons p r ih =>
    have : 1 ≤ szD p := by cases p <;> simp only [szD] <;> omega
    simp only [szB, List.length_cons]
    omega
mutual
theorem cvV_len : ∀ s : VS, (cvV s).1.length + (cvV s).2.1.length ≤ cV s ∧ ∀ f ∈ (cvV s).2.2, lenF f ≤ cV s
  | .part t ws r => by
    have h := cvV_len r
    have h1 := remP_le ((innerP t).drop (ws.length + 1))
    simp only [cvV, cV, remP, asP, List.length_append, List.length_cons, List.length_map]
    exact ⟨by omega, fun f hf => Nat.le_trans (h.2 f hf) (by omega)⟩
  | .deed d ws r => by
    have h := cvD_len r
    have h1 := remP_le ((innerD d).drop (ws.length + 1))
    simp only [cvV, cV, remP, asP, List.length_append, List.length_cons, List.length_map]
    exact ⟨by omega, fun f hf => Nat.le_trans (h.2 f hf) (by omega)⟩
theorem cvD_len : ∀ s : DS, (cvD s).1.length + (cvD s).2.1.length ≤ cD s ∧ ∀ f ∈ (cvD s).2.2, lenF f ≤ cD s
  | .nil => ⟨Nat.le_refl _, fun f hf => by simp [cvD] at hf⟩
  | .back ns r => by
    have h := cvV_len r
    simp only [cvD, cD, List.length_nil]
    refine ⟨by omega, fun f hf => ?_⟩
    rcases List.mem_cons.mp hf with rfl | hf
    · simp only [lenF]; omega
    · exact Nat.le_trans (h.2 f hf) (by omega)
  | .body b i r => by
    have h := cvD_len r
    have h1 := szB_len (b.drop i)
    simp only [cvD, cD, asD, List.length_append, List.length_map]
    exact ⟨by omega, fun f hf => Nat.le_trans (h.2 f hf) (by omega)⟩
  | .again p b r => by
    have h := cvD_len r
    simp only [cvD, cD, List.length_cons]
    exact ⟨by omega, fun f hf => Nat.le_trans (h.2 f hf) (by omega)⟩
end
mutual
theorem cvV_n {ps : List Nat} : ∀ {nm c : Nat} {s : VS}, wfVS ps nm c s → (cvV s).2.2.length = c
  | _, _, .part _ _ r, h => cvV_n (s := r) h.2.2.2
  | _, _, .deed _ _ r, h => cvD_n (s := r) h.2.2.2.2
theorem cvD_n {ps : List Nat} : ∀ {nm c : Nat} {s : DS}, wfDS ps nm c s → (cvD s).2.2.length = c
  | _, _, .nil, h => (show _ = 0 from h).symm
  | _, _, .back _ r, ⟨c', e, _, _, h⟩ => by
    rw [e]
    exact congrArg Nat.succ (cvV_n (s := r) h)
  | _, _, .body _ _ r, h => cvD_n (s := r) h.2.2.2
  | _, _, .again _ _ r, h => cvD_n (s := r) h.2.2
end
theorem leaveF_len (v t : Int) (l : List Fr) : (leaveF v t l).1.length = l.length := by
  cases l <;> rfl
theorem cvD_popB : ∀ s : DS, (cvD (popB s)).2.2 = (cvD s).2.2
  | .nil => rfl
  | .back _ _ => rfl
  | .body _ _ r => cvD_popB r
  | .again _ _ r => cvD_popB r
theorem conv_sm {ps : List Nat} {st : St} (w : WfSt ps st) (h : st.said.length + left st ≤ 4000000) : Sm (conv st) := by
  obtain ⟨ce, ceR, nmR, n8, fu, ca, c⟩ := w
  obtain ⟨sd, ces, fuel, calls, nm, ct⟩ := st
  simp only [left] at h
  refine ⟨by simp only [conv]; omega, ?_, ?_⟩
  · intro f hf
    cases ct with
    | look p s =>
      have h1 := cvV_len s
      simp only [cC] at h
      rcases List.mem_cons.mp hf with rfl | hf
      · simp only [lenF, List.length_cons]; omega
      · exact Nat.le_trans (h1.2 f hf) (by omega)
    | give p s =>
      have h1 := cvV_len s
      simp only [cC] at h
      rcases List.mem_cons.mp hf with rfl | hf
      · simp only [lenF, List.length_append, List.length_cons, List.length_nil]; omega
      · exact Nat.le_trans (h1.2 f hf) (by omega)
    | go s =>
      have h1 := cvD_len s
      simp only [cC] at h
      rcases List.mem_cons.mp hf with rfl | hf
      · simp only [lenF]; omega
      · exact Nat.le_trans (h1.2 f hf) (by omega)
    | ret v s =>
      have h1 := cvD_len s
      simp only [cC] at h
      simp only [conv, cvC] at hf
      generalize (cvD s).2.2 = l at h1 hf
      cases l with
      | nil => simp [leaveF] at hf
      | cons g r =>
        rcases List.mem_cons.mp hf with rfl | hf
        · have := h1.2 g (by simp)
          simp only [lenF] at this
          simp only [lenF, List.length_append, List.length_cons, List.length_nil]; omega
        · exact Nat.le_trans (h1.2 f (by simp [hf])) (by omega)
  · simp only at ca
    cases ct with
    | look p s => have : _ = calls := cvV_n c.2; simp only [conv, cvC, List.length_cons]; omega
    | give p s => have : _ = calls := cvV_n c.2; simp only [conv, cvC, List.length_cons]; omega
    | go s => have : _ = calls := cvD_n c; simp only [conv, cvC, List.length_cons]; omega
    | ret v s => have : _ = calls := cvD_n c.2.2; simp only [conv, cvC, leaveF_len]; omega
/-- a run of the other that begins with the same -/
theorem innerP_drop {p q : Pt} {n : Nat} (h : (innerP p)[n]? = some q) : asP ((innerP p).drop n) = (false, .p q) :: asP ((innerP p).drop (n + 1)) := by
  have hn := lt_of_some h
  rw [List.drop_eq_getElem_cons hn]
  rw [List.getElem?_eq_getElem hn] at h
  cases h
  rfl
theorem innerD_drop {p : Dd} {q : Pt} {n : Nat} (h : (innerD p)[n]? = some q) : asP ((innerD p).drop n) = (false, .p q) :: asP ((innerD p).drop (n + 1)) := by
  have hn := lt_of_some h
  rw [List.drop_eq_getElem_cons hn]
  rw [List.getElem?_eq_getElem hn] at h
  cases h
  rfl
theorem body_drop {b : List Dd} {d : Dd} {n : Nat} (h : b[n]? = some d) : asD (b.drop n) = (false, .d d) :: asD (b.drop (n + 1)) := by
  have hn := lt_of_some h
  rw [List.drop_eq_getElem_cons hn]
  rw [List.getElem?_eq_getElem hn] at h
  cases h
  rfl
def fewer (T : PT) : Prop := T.said.length ≤ 7999000 ∧ (∀ f ∈ T.fr, lenF f ≤ 7999000) ∧ T.fr.length ≤ 61
theorem conv_sm' {ps : List Nat} {st : St} (w : WfSt ps st) (h : st.said.length + left st ≤ 4000000) : Sm (conv st) := conv_sm w h
/-- one to do opened -/
theorem opn_run {fs : List Fu} {sd ce : List Int} {fu n : Nat} {nm wo : List Int} {t : Th} {td : List (Bool × Th)} {r : List Fr} {tl : Int} {f : Fi} (s : Sm ⟨sd, ce, fu, ⟨nm, (false, t) :: td, wo⟩ :: r, tl⟩)
    (h : PRun fs n ⟨sd, ce, fu, ⟨nm, asP (innerT t) ++ (true, t) :: td, wo⟩ :: r, tl⟩ f) : PRun fs (n + 1) ⟨sd, ce, fu, ⟨nm, (false, t) :: td, wo⟩ :: r, tl⟩ f := .step s .opn h
theorem Sm.opened {sd ce : List Int} {fu : Nat} {nm wo : List Int} {t : Th} {td : List (Bool × Th)} {r : List Fr} {tl : Int} (s : Sm ⟨sd, ce, fu, ⟨nm, (false, t) :: td, wo⟩ :: r, tl⟩) : Sm ⟨sd, ce, fu, ⟨nm, (true, t) :: td, wo⟩ :: r, tl⟩ := by
  refine ⟨s.said, fun f hf => ?_, s.n⟩
  rcases List.mem_cons.mp hf with rfl | hf
  · exact s.fr ⟨nm, (false, t) :: td, wo⟩ (by simp)
  · exact s.fr f (by simp [hf])
theorem sim {ps : List Nat} {fs : List Fu} (W : WfPs ps fs) {st st' : St} (w : WfSt ps st) (hs : st.said.length + left st ≤ 4000000) (h : Step fs st st') {n : Nat} {f : Fi} (r : PRun fs n (conv st') f) : ∃ n', PRun fs n' (conv st) f := by
  have sm := conv_sm w hs
  obtain ⟨ce, ceR, nmR, n8, fu, ca, c⟩ := w
  cases h with
  | num => exact ⟨_, .step sm .opn (.step sm.opened .num r)⟩
  | name h => exact ⟨_, .step sm .opn (.step sm.opened (.name h) r)⟩
  | @first _ _ _ _ _ p q s h =>
    refine ⟨n + 1, .step sm .opn ?_⟩
    have e := innerP_drop h
    rw [List.drop_zero] at e
    simp only [innerT, e, List.cons_append]
    simp only [conv, cvC, cvV, List.length_nil, List.append_nil] at r
    exact r
  | next h =>
    refine ⟨n, ?_⟩
    have e := innerP_drop h
    simp only [conv, cvC, cvV, List.length_append, List.length_cons, List.length_nil, Nat.zero_add] at r
    simp only [conv, cvC, cvV, e, List.cons_append, List.append_assoc]
    rw [← List.append_assoc] at r ⊢
    exact r
  | nextD h =>
    refine ⟨n, ?_⟩
    have e := innerD_drop h
    simp only [conv, cvC, cvV, List.length_append, List.length_cons, List.length_nil, Nat.zero_add] at r
    simp only [conv, cvC, cvV, e, List.cons_append, List.append_assoc]
    rw [← List.append_assoc] at r ⊢
    exact r
  | bin h =>
    refine ⟨_, .step sm ?_ r⟩
    simp only [conv, cvC, cvV, innerP, List.length_cons, List.length_nil, List.drop_succ_cons, List.drop_nil, asP, List.map_nil, List.nil_append, List.append_assoc, List.cons_append]
    exact .bin (c.2.2.2.1 _ (by simp)) c.1 h
  | nt =>
    refine ⟨_, .step sm ?_ r⟩
    simp only [conv, cvC, cvV, innerP, List.length_cons, List.length_nil, List.drop_succ_cons, List.drop_nil, asP, List.map_nil, List.nil_append, List.append_nil]
    exact .nt
  | get h0 h =>
    refine ⟨_, .step sm ?_ r⟩
    simp only [conv, cvC, cvV, innerP, List.length_cons, List.length_nil, List.drop_succ_cons, List.drop_nil, asP, List.map_nil, List.nil_append, List.append_nil]
    exact .get h0 h ce
  | @call0 sd cee fuu caa nmm f fn s hf hc =>
    have hn := cvV_n c.2
    refine ⟨_, .step sm .opn (.step sm.opened ?_ r)⟩
    have h2 := PStep.call (fs := fs) (sd := sd) (ce := cee) (fu := fuu) (nm := nmm) (f := f) (ps := []) (fn := fn) (ws := []) (td := (cvV s).1) (wo := (cvV s).2.1) (r := (cvV s).2.2) (tl := 0) hf (by simp only at hn; omega) rfl (W.get hf c.1.1)
    rw [List.append_nil] at h2
    simp only [conv, cvC, cvD, innerT, innerP, asP, List.map_nil, List.nil_append, List.drop_zero, List.append_nil]
    exact h2
  | @call sd cee fuu caa nmm f qs fn v ws s hf hc hl =>
    have hn := cvV_n c.2.2.2.2
    have hp := W.get hf c.2.2.1.1
    refine ⟨_, .step sm ?_ r⟩
    have h2 := PStep.call (fs := fs) (sd := sd) (ce := cee) (fu := fuu) (nm := nmm) (f := f) (ps := qs) (fn := fn) (ws := ws ++ [v]) (td := (cvV s).1) (wo := (cvV s).2.1) (r := (cvV s).2.2) (tl := 0) hf (by simp only at hn; omega) (by rw [List.length_append]; exact hl) (by rw [List.length_append]; exact hl.trans hp)
    simp only [conv, cvC, cvV, cvD, innerP, List.drop_eq_nil_of_le (Nat.le_of_eq hl.symm), asP, List.map_nil, List.nil_append, List.drop_zero, List.append_nil, List.append_assoc]
    exact h2
  | set =>
    refine ⟨_, .step sm ?_ r⟩
    simp only [conv, cvC, cvV, innerD, List.length_cons, List.length_nil, List.drop_succ_cons, List.drop_nil, asP, List.map_nil, List.nil_append, List.append_nil]
    exact .set c.2.2.1.1
  | put h0 h =>
    refine ⟨_, .step sm ?_ r⟩
    simp only [conv, cvC, cvV, innerD, List.length_cons, List.length_nil, List.drop_succ_cons, List.drop_nil, asP, List.map_nil, List.nil_append, List.append_assoc, List.cons_append]
    exact .put h0 h ce
  | say =>
    refine ⟨_, .step sm ?_ r⟩
    simp only [conv, cvC, cvV, innerD, List.length_cons, List.length_nil, List.drop_succ_cons, List.drop_nil, asP, List.map_nil, List.nil_append, List.append_nil]
    exact .say
  | ite =>
    refine ⟨_, .step sm ?_ r⟩
    simp only [conv, cvC, cvV, cvD, innerD, List.length_cons, List.length_nil, List.drop_succ_cons, List.drop_nil, asP, List.map_nil, List.nil_append, List.append_nil, List.drop_zero]
    exact .ite
  | whl0 =>
    refine ⟨_, .step sm ?_ r⟩
    simp only [conv, cvC, cvV, innerD, List.length_cons, List.length_nil, List.drop_succ_cons, List.drop_nil, asP, List.map_nil, List.nil_append, List.append_nil]
    exact .whl0
  | whl h =>
    refine ⟨_, .step sm ?_ r⟩
    simp only [conv, cvC, cvV, cvD, innerD, List.length_cons, List.length_nil, List.drop_succ_cons, List.drop_nil, asP, List.map_nil, List.nil_append, List.append_nil, List.drop_zero]
    exact .whl h
  | ret =>
    refine ⟨_, .step sm ?_ r⟩
    simp only [conv, cvC, cvV, cvD_popB, innerD, List.length_cons, List.length_nil, List.drop_succ_cons, List.drop_nil, asP, List.map_nil, List.nil_append, List.append_nil]
    exact .ret
  | dop =>
    refine ⟨_, .step sm ?_ r⟩
    simp only [conv, cvC, cvV, innerD, List.length_cons, List.length_nil, List.drop_succ_cons, List.drop_nil, asP, List.map_nil, List.nil_append, List.append_nil]
    exact .dop
  | goBack => exact ⟨_, .step sm .leave r⟩
  | retBack => exact ⟨_, r⟩
  | @deed sd cee fuu caa nmm b i d q s h hq =>
    refine ⟨_, .step sm ?_ r⟩
    have e := innerD_drop hq
    rw [List.drop_zero] at e
    simp only [conv, cvC, cvV, cvD, body_drop h, List.length_nil, List.append_nil, Nat.zero_add, List.cons_append]
    have h2 := PStep.opn (fs := fs) (sd := sd) (ce := cee) (fu := fuu) (nm := nmm) (t := .d d) (td := asD (b.drop (i + 1)) ++ (cvD s).1) (wo := (cvD s).2.1) (r := (cvD s).2.2) (tl := 0)
    simp only [innerT, e, List.cons_append] at h2
    exact h2
  | over h =>
    refine ⟨n, ?_⟩
    simp only [conv, cvC, cvD, List.drop_eq_nil_of_le h, asD, List.map_nil, List.nil_append]
    exact r
  | again =>
    refine ⟨_, .step sm ?_ r⟩
    simp only [conv, cvC, cvV, cvD, List.length_nil, List.append_nil, Nat.zero_add]
    exact .opn
theorem simE {ps : List Nat} {fs : List Fu} (W : WfPs ps fs) {st : St} (w : WfSt ps st) (hs : st.said.length + left st ≤ 4000000) {f : Fi} (h : Ends fs st f) : ∃ n', PRun fs n' (conv st) f := by
  have sm := conv_sm w hs
  obtain ⟨ce, ceR, nmR, n8, fu, ca, c⟩ := w
  cases h with
  | go => exact ⟨_, .step sm .leave (.fin ⟨sm.said, fun f hf => by simp [cvD, leaveF] at hf, by simp [cvD, leaveF]⟩ .over)⟩
  | ret => exact ⟨0, .fin sm .over⟩
  | bin h =>
    refine ⟨0, .fin sm ?_⟩
    simp only [conv, cvC, cvV, innerP, List.length_cons, List.length_nil, List.drop_succ_cons, List.drop_nil, asP, List.map_nil, List.nil_append, List.append_assoc, List.cons_append]
    exact .bin (c.2.2.2.1 _ (by simp)) c.1 h
  | get h =>
    refine ⟨0, .fin sm ?_⟩
    simp only [conv, cvC, cvV, innerP, List.length_cons, List.length_nil, List.drop_succ_cons, List.drop_nil, asP, List.map_nil, List.nil_append, List.append_nil]
    exact .get h
  | put h =>
    refine ⟨0, .fin sm ?_⟩
    simp only [conv, cvC, cvV, innerD, List.length_cons, List.length_nil, List.drop_succ_cons, List.drop_nil, asP, List.map_nil, List.nil_append, List.append_assoc, List.cons_append]
    exact .put h
  | @deep0 sd cee fuu caa nmm f s hc =>
    have hn : _ = _ := cvV_n c.2
    refine ⟨_, .step sm .opn (.fin sm.opened ?_)⟩
    have h2 := PEnds.deep (fs := fs) (sd := sd) (ce := cee) (fu := fuu) (nm := nmm) (f := f) (ps := []) (ws := []) (td := (cvV s).1) (wo := (cvV s).2.1) (r := (cvV s).2.2) (tl := 0) (by simp only at hn; omega) rfl
    rw [List.append_nil] at h2
    exact h2
  | @deep sd cee fuu caa nmm f qs v ws s hc hl =>
    have hn := cvV_n c.2.2.2.2
    refine ⟨0, .fin sm ?_⟩
    have h2 := PEnds.deep (fs := fs) (sd := sd) (ce := cee) (fu := fuu) (nm := nmm) (f := f) (ps := qs) (ws := ws ++ [v]) (td := (cvV s).1) (wo := (cvV s).2.1) (r := (cvV s).2.2) (tl := 0) (by simp only at hn; omega) (by rw [List.length_append]; exact hl)
    simp only [conv, cvC, cvV, innerP, List.drop_eq_nil_of_le (Nat.le_of_eq hl.symm), asP, List.map_nil, List.nil_append, List.append_assoc]
    exact h2
  | @long0 sd cee caa nmm f s hc =>
    have hn : _ = _ := cvV_n c.2
    refine ⟨_, .step sm .opn (.fin sm.opened ?_)⟩
    have h2 := PEnds.long (fs := fs) (sd := sd) (ce := cee) (nm := nmm) (f := f) (ps := []) (ws := []) (td := (cvV s).1) (wo := (cvV s).2.1) (r := (cvV s).2.2) (tl := 0) (by simp only at hn; omega) rfl
    rw [List.append_nil] at h2
    exact h2
  | @long sd cee caa nmm f qs v ws s hc hl =>
    have hn := cvV_n c.2.2.2.2
    refine ⟨0, .fin sm ?_⟩
    have h2 := PEnds.long (fs := fs) (sd := sd) (ce := cee) (nm := nmm) (f := f) (ps := qs) (ws := ws ++ [v]) (td := (cvV s).1) (wo := (cvV s).2.1) (r := (cvV s).2.2) (tl := 0) (by simp only at hn; omega) (by rw [List.length_append]; exact hl)
    simp only [conv, cvC, cvV, innerP, List.drop_eq_nil_of_le (Nat.le_of_eq hl.symm), asP, List.map_nil, List.nil_append, List.append_assoc]
    exact h2
  | longW h =>
    refine ⟨0, .fin sm ?_⟩
    simp only [conv, cvC, cvV, innerD, List.length_cons, List.length_nil, List.drop_succ_cons, List.drop_nil, asP, List.map_nil, List.nil_append, List.append_nil]
    exact .longW h
inductive Run (fs : List Fu) : St → Fi → Prop where
  | fin {st f} (h : Ends fs st f) : Run fs st f
  | step {st st' f} (h : Step fs st st') (r : Run fs st' f) : Run fs st f
theorem Run.sim {ps : List Nat} {fs : List Fu} (W : WfPs ps fs) {st : St} {f : Fi} (r : Run fs st f) : WfSt ps st → st.said.length + left st ≤ 4000000 → ∃ n, PRun fs n (conv st) f := by
  induction r with
  | fin h => exact fun w hs => simE W w hs h
  | step h r ih =>
    intro w hs
    have l := h.lt W w
    obtain ⟨n, q⟩ := ih (h.wf W w) (Nat.le_trans l.2 hs)
    exact Bq.sim W w hs h q
end Bq
end

section
set_option maxRecDepth 100000
set_option maxHeartbeats 1000000
open Bq L2
/-- one step of a reading; what is left are side goals and places to think -/
local macro_rules | `(tactic| walk_at "g1") => `(tactic| first
  | with_reducible refine' g_seq ?_ | with_reducible refine' g_asg ?_ | with_reducible refine' g_drop ?_ | with_reducible refine' g_ret ?_ | with_reducible refine' g_ifS ?_ | with_reducible refine' g_asgG ?_
  | ((with_reducible refine' g_var ?hv ?_); (case hv => rfl))
  | with_reducible refine' g_c ?_ | with_reducible refine' g_op ?_ | with_reducible refine' g_un ?_ | with_reducible refine' g_I0 ?_ | with_reducible refine' g_U ?_
  | with_reducible refine' g_test ?_ | with_reducible refine' g_tB ?_ | with_reducible refine Exists.intro _ (And.intro rfl ?_) 
  | ((with_reducible refine' g_andP ?ha ?hb ?_); (case ha => intro R q; walk_at "g"; exact q); (case hb => intro R q; walk_at "g"; exact q))
  | ((with_reducible refine' g_orP ?ha ?hb ?_); (case ha => intro R q; walk_at "g"; exact q); (case hb => intro R q; walk_at "g"; exact q))
  | with_reducible refine' g_and ?_ | with_reducible refine' g_or ?_ | with_reducible refine' g_not ?_
  | with_reducible refine' g_andV ?_ | with_reducible refine' g_orV ?_ | with_reducible refine' g_notV ?_ | with_reducible refine' g_if ?_ | with_reducible refine' g_nil ?_ | with_reducible refine' g_cons ?_
  | with_reducible refine' g_tup ?_ | with_reducible refine' g_lst ?_ | with_reducible refine' g_CB ?_ | with_reducible refine' g_Fn ?_ | with_reducible refine' g_next ?_ | with_reducible refine' g_retN ?_
  | with_reducible refine' g_name ?_ | with_reducible refine' g_sub ?_
  | ((with_reducible refine' g_ixL ?hs ?he ?_); (case hs => walk_at "lk"); (case he => walk_at "at"))
  | ((with_reducible refine' g_ixT ?hs ?he ?_); (case hs => walk_at "lk"); (case he => walk_at "at"))
  | ((with_reducible refine' g_setL ?hs ?he ?_); (case hs => walk_at "hp"); (case he => rfl))
  | ((with_reducible refine' g_app ?hs ?hz ?_); (case hs => walk_at "hp"); (case hz => walk_at "sz"))
  | ((with_reducible refine' ⟨_, _, rfl, Or.inl ?hs, ?_⟩); (case hs => walk_at "lk"))
  | ((with_reducible refine' ⟨_, _, rfl, Or.inr ?hs, ?_⟩); (case hs => walk_at "lk"))
  | with_reducible refine' g_BM ?_ | with_reducible refine' g_BM0 ?_ | ((with_reducible refine' g_tyL ?hs ?_); (case hs => walk_at "lk"))
  | with_reducible refine' g_sl ?_ | with_reducible refine' g_noPart ?_ | with_reducible refine' g_part ?_
  | ((with_reducible refine' g_inT ?hs ?fx ?fs ?_); (case hs => walk_at "lk"); (case fx => rfl); (case fs => rfl))
  | with_reducible refine' g_pair ?_ | with_reducible refine' g_pair0 ?_ | with_reducible refine' g_disp ?_
  | with_reducible refine' g_for ?_ | with_reducible refine' g_tupC ?_ | with_reducible refine' g_lstC ?_ | ((with_reducible refine' g_lens ?_)) | with_reducible refine' g_dg ?_ | with_reducible refine' g_lc ?_ | with_reducible refine' g_rng1 ?_ | with_reducible refine' g_ilist ?_ | with_reducible refine' g_itup ?_
  | ((with_reducible refine' ⟨_, _, rfl, ?hd, ?_⟩); (case hd => walk_at "dg"))
  | ((with_reducible refine' g_eqNil ?hs ?hz ?_); (case hs => walk_at "lk"); (case hz => walk_at "lk"))
  | ((with_reducible refine' g_neNil ?hs ?hz ?_); (case hs => walk_at "lk"); (case hz => walk_at "lk"))
  | with_reducible refine Or.inl ⟨_, rfl, ?_⟩
  | with_reducible refine Or.inr ⟨_, rfl, ?_⟩
  | ((with_reducible refine' g_eq ?hs ?_); (case hs => rfl))
  | ((with_reducible refine' g_ne ?hs ?_); (case hs => rfl))
  | ((with_reducible refine' g_I ?hc ?_); (case hc => walk_at "ar")))
/-- arithmetic's side conditions -/
local macro_rules | `(tactic| walk_at "ar") => `(tactic| (first
  | (show (0 : Int) < _; first | omega | decide) | (show (0 : Int) < _ ∧ _; constructor <;> omega) | (show ¬ (_ : Int) = _; omega) | (show (_ : Int) ≠ _ ∧ _; constructor <;> omega)
  | (show (-(2 ^ 64) < _ ∧ _) ∨ _; (first | (left; constructor <;> omega) | (right; constructor <;> omega))) | (show (0 : Int) ≤ _ ∧ _ ∧ _; refine ⟨by omega, by omega, by decide⟩)))
/-- what stands at an index -/
local macro_rules | `(tactic| walk_at "at") => `(tactic| first | rfl | assumption)
/-- what stands at an address -/
local macro_rules | `(tactic| walk_at "hp") => `(tactic| first | assumption | exact upd_same | ((refine' Eq.trans (upd_ne ?hn) ?hm); (case hm => walk_at "hp"); (case hn => walk_at "ne")))
/-- two places are two -/
local macro_rules | `(tactic| walk_at "ne") => `(tactic| first
  | assumption | exact Ne.symm (by assumption)
  | ((refine' ne_of_none ?ha ?hb); (case hb => assumption); (case ha => walk_at "hp")) | ((refine' Ne.symm (ne_of_none ?ha ?hb)); (case hb => assumption); (case ha => walk_at "hp")))
/-- what a dict tells -/
local macro_rules | `(tactic| walk_at "dg") => `(tactic| first | assumption)
/-- a length -/
local macro_rules | `(tactic| walk_at "sz") => `(tactic| first | (show _ ≤ sizeLine; decide) | (show _ < sizeLine; decide) | assumption | exact szlt (by simp) | exact szle (by simp))
/-- a list or tuple that stands -/
local macro_rules | `(tactic| walk_at "lk") => `(tactic| first | assumption | exact SqL.of (by assumption) | exact SqT.of (by assumption) | exact SqL.of upd_same | exact SqT.of upd_same | (refine' FzL.sq ?hm; (case hm => walk_at "fz")))
/-- a list that nobody writes -/
local macro_rules | `(tactic| walk_at "fz") => `(tactic| first | assumption | ((refine' FzL.uw ?hm ?hx); (case hx => walk_at "hp"); (case hm => walk_at "fz")) | ((refine' FzL.nw ?hm ?hx); (case hx => assumption); (case hm => walk_at "fz")))
/-- as far as it goes by itself -/
local macro_rules | `(tactic| walk_at "g") => `(tactic| repeat walk_at "g1")
/-- the body's reading, its places in short -/
local macro_rules | `(tactic| walk_at "go") => `(tactic| ((try dsimp only [cxOf, Cx.nox, Cx.wish]); walk_at "g"))
namespace K3
open PySem PySem.Spec PyProof.Rows L2 Bq
section
variable {P : Program} {w : World} {K : PySem.W.Frag} {mg : Str → Option Value} {base : Heap}
/-! ### what stands within a thing -/
def encT : Th → T
  | .p p => encP p
  | .d d => encDd d
def wdT : Th → Str
  | .p (.num _) => "num"
  | .p (.name _) => "name"
  | .p (.bin op _ _) => op.str
  | .p (.nt _) => "not"
  | .p (.get _) => "get"
  | .p (.call _ _) => "call"
  | .d (.set _ _) => "set"
  | .d (.put _ _) => "put"
  | .d (.say _) => "say"
  | .d (.ite _ _ _) => "if"
  | .d (.whl _ _) => "while"
  | .d (.ret _) => "return"
  | .d (.dop _) => "do"
def restT : Th → List T
  | .p (.num n) => [.int n]
  | .p (.name i) => [.int i]
  | .p (.bin _ a b) => [encP a, encP b]
  | .p (.nt a) => [encP a]
  | .p (.get a) => [encP a]
  | .p (.call f ps) => [.int f, .tup (encPs ps)]
  | .d (.set i p) => [.int i, encP p]
  | .d (.put c p) => [encP c, encP p]
  | .d (.say p) => [encP p]
  | .d (.ite p a b) => [encP p, .tup (encB a), .tup (encB b)]
  | .d (.whl p b) => [encP p, .tup (encB b)]
  | .d (.ret p) => [encP p]
  | .d (.dop p) => [encP p]
theorem encT_eq (t : Th) : encT t = .tup (.str (wdT t) :: restT t) := by
  cases t with
  | p p => cases p <;> rfl
  | d d => cases d <;> rfl
def tabI : List (Key × V) := [(Sum.inr "set", .int 1), (Sum.inr "put", .int 2), (Sum.inr "say", .int 1), (Sum.inr "if", .int 1), (Sum.inr "while", .int 1), (Sum.inr "return", .int 1), (Sum.inr "do", .int 1), (Sum.inr "num", .int 0), (Sum.inr "name", .int 0), (Sum.inr "not", .int 1)]
def notCall : Th → Prop
  | .p (.call _ _) => False
  | _ => True
theorem wd_call {t : Th} (h : notCall t) : decide (V.str (wdT t) = V.str "call") = false := by
  cases t with
  | p p => cases p with
    | bin op a b => cases op <;> rfl
    | call f ps => exact h.elim
    | _ => rfl
  | d d => cases d <;> rfl
theorem inner_many {t : Th} (h : notCall t) : (valV (mergeK [] tabI) (Sum.inr (wdT t))).getD (if decide (V.str (wdT t) = V.str "get") = true then .int 1 else .int 2) = .int (innerT t).length := by
  cases t with
  | p p => cases p with
    | bin op a b => cases op <;> rfl
    | call f ps => exact h.elim
    | _ => rfl
  | d d => cases d <;> rfl
theorem inner_cut {t : Th} (h : notCall t) : (if decide (V.str (wdT t) = V.str "set") = true then cutT (.str (wdT t) :: restT t) (some 2) (some 3) else cutT (.str (wdT t) :: restT t) (some 1) (some (1 + (innerT t).length))) = encPs (innerT t) := by
  cases t with
  | p p => cases p with
    | bin op a b => cases op <;> rfl
    | call f ps => exact h.elim
    | _ => rfl
  | d d => cases d <;> rfl
theorem innerT_len {t : Th} (h : notCall t) : (encPs (innerT t)).length ≤ 10 := by
  cases t with
  | p p => cases p with
    | call f ps => exact h.elim
    | _ => simp [innerT, innerP, encPs]
  | d d => cases d <;> simp [innerT, innerD, encPs]
def spInner (K : PySem.W.Frag) : Sp := fun vs H Q _ => ∃ v t, vs = [v] ∧ Rep K H v (encT t) ∧ ∀ H' l us, Ch K [] H H' → H l = none → H' l = some (.lst us) → Reps K H' us (encPs (innerT t)) → Q (.ref l) H'
theorem fn_inner (C : Cn w K mg base) : Fn P w K mg base CX0 2 "_law_inner" ["_law_thing"] (spInner K) := C.f_law_inner fun fd F => by
  refine F.ok (CX := CX0) sc_law_inner (fun vs H Q E h => ?_) (fun cdv A outer s H vs Q E hr h => ?_)
  · obtain ⟨v, t, rfl, _⟩ := h
    rfl
  · obtain ⟨v, t, rfl, rep, q⟩ := h
    have hu := hu_of (rmm (j := 1) hr)
    refine ⟨_, PSs.nox (pss_cons (ps_if (pt_cmpR op_eq (pe_ix ix_tup (pv 0) pe_int (fun _ _ => rfl)) pe_str (nomark _)) (pss_one (ps_ret (pe_callTy call_list_of (by rfl) (C.m_list) (by decide +kernel) (pa_cons (pe_ix ix_tup (pv 0) pe_int (fun _ _ => rfl)) pa_nil)))) pss_nil)
      (pss_cons (ps_set (i := 1) sc_law_inner.nd rfl (Or.inl rfl) (pe_disp (pps_cons pe_str pe_int (pps_cons pe_str pe_int (pps_cons pe_str pe_int (pps_cons pe_str pe_int (pps_cons pe_str pe_int (pps_cons pe_str pe_int (pps_cons pe_str pe_int (pps_cons pe_str pe_int (pps_cons pe_str pe_int (pps_cons pe_str pe_int pps_nil)))))))))) (by rfl) (by rfl) (fun z => by cases z) (by decide)))
      (pss_cons (ps_set (i := 1) sc_law_inner.nd rfl (Or.inl rfl) (pe_dget2 hu (pv 1) (pe_ix ix_tup (pv 0) pe_int (fun _ _ => rfl)) (pe_ifExp (pt_cmpR op_eq (pe_ix ix_tup (pv 0) pe_int (fun _ _ => rfl)) pe_str (nomark _)) pe_int pe_int) ⟨by rfl, by rfl, by rfl, by rfl⟩))
      (pss_one (ps_ret (pe_ifExp (pt_cmpR op_eq (pe_ix ix_tup (pv 0) pe_int (fun _ _ => rfl)) pe_str (nomark _)) (pe_callTy call_list_of (by rfl) (C.m_list) (by decide +kernel) (pa_cons (pe_slice sl_tupR (pv 0) (po_some pe_int) (po_some pe_int)) pa_nil)) (pe_callTy call_list_of (by rfl) (C.m_list) (by decide +kernel) (pa_cons (pe_slice sl_tupR (pv 0) (po_some pe_int) (po_some (pe_op op_add pe_int (pv 1)))) pa_nil)))))))), ?_⟩
    have rep0 := rep
    rw [encT_eq] at rep
    obtain ⟨a, vs, rfl, hS, rs⟩ := rep.tupI
    obtain ⟨v0, vs1, rfl, r0, rs1⟩ := rs.consI
    obtain rfl := r0.strI
    have h0 : atI (V.str (wdT t) :: vs1) 0 = some (V.str (wdT t)) := atI_nat (j := 0) rfl
    walk_at "go"
    refine iteB (fun h => ?_) (fun h => ?_)
    · obtain ⟨f, ps, rfl⟩ : ∃ f ps, t = .p (.call f ps) := by
        cases t with
        | p p => cases p with
          | call f ps => exact ⟨f, ps, rfl⟩
          | _ => rw [wd_call (by trivial)] at h; cases h
        | d d => rw [wd_call (by trivial)] at h; cases h
      obtain ⟨v1, vs2, rfl, _, rs2⟩ := rs1.consI
      obtain ⟨v2, vs3, rfl, r2, _⟩ := rs2.consI
      obtain ⟨b, us, rfl, hb, rus⟩ := r2.tupI
      have h2 : atI (V.str (wdT (.p (.call f ps))) :: v1 :: V.ref b :: vs3) 2 = some (V.ref b) := atI_nat (j := 2) rfl
      walk_at "g"
      refine fun l nl => ?_
      exact q _ _ us (Ch.new nl) nl upd_same (rus.kt (Ch.new (S := []) nl).kt)
    · have hn : notCall t := by
        cases t with
        | p p => cases p with
          | call f ps => cases h
          | _ => trivial
        | d d => trivial
      walk_at "g"
      refine fun p np => ?_
      walk_at "g"
      refine ⟨upd_same, tabI, rfl, by simp [tabI], ?_⟩
      have c1 : Ch K [] H (upd (upd H p (.dK [])) p (.dK (mergeK [] tabI))) := (Ch.new np).wrN np upd_same rfl
      have e1 : (upd (upd H p (.dK [])) p (.dK (mergeK [] tabI))) p = some (.dK (mergeK [] tabI)) := upd_same
      generalize upd (upd H p (.dK [])) p (.dK (mergeK [] tabI)) = H1 at c1 e1 ⊢
      have hS1 := c1.sqT hS
      have rep1 := rep.kt c1.kt
      have lN := innerT_len hn
      have hcut := inner_cut hn
      have hmany := inner_many hn
      have fin : ∀ {v : V} {H2 : Hp}, Ch K [] H1 H2 → Rep K H2 v (.tup (encPs (innerT t))) → ∃ p ys, [v] = [V.ref p] ∧ (SqL K H2 p ys ∨ SqT K H2 p ys) ∧ ∀ l, H2 l = none → Q (.ref l) (upd H2 l (.lst ys)) := by
        intro v H2 c2 r2
        obtain ⟨b, us, rfl, hb, rus⟩ := r2.tupI
        exact ⟨b, us, rfl, .inr hb, fun l nl => q _ _ us ((c1.trans c2).trans (Ch.new nl)) ((c1.trans c2).free nl (by simp)) upd_same (rus.kt (Ch.new (S := []) nl).kt)⟩
      have fin2 : ∀ (σ : L2.St), σ[0]? = some (some (.ref a)) → σ[1]? = some (some (.int (innerT t).length)) → tIf (tTest (tOp rEq (tOp (rIxT K) (tVar 0) (tC (V.int 0))) (tC (V.str (Str.ofString "set")))))
              (tCB (fun xs H Q => ∃ p ys, xs = [V.ref p] ∧ (SqL K H p ys ∨ SqT K H p ys) ∧ ∀ (l : Addr), H l = none → Q (V.ref l) (upd H l (HO.lst ys))) (tCons (tSl (rSlR K) (tVar 0) (tPart (tC (V.int 2))) (tPart (tC (V.int 3)))) tNil))
              (tCB (fun xs H Q => ∃ p ys, xs = [V.ref p] ∧ (SqL K H p ys ∨ SqT K H p ys) ∧ ∀ (l : Addr), H l = none → Q (V.ref l) (upd H l (HO.lst ys))) (tCons (tSl (rSlR K) (tVar 0) (tPart (tC (V.int 1))) (tPart (tOp (rI0 fun i j => V.int (i + j)) (tC (V.int 1)) (tVar 1)))) tNil)) σ H1 Q := by
        intro σ e0 e1
        have h0' := h0
        refine g_if (g_test (g_op (g_op (g_var e0 (g_c (g_ixT hS1 h0 (g_c (g_eq rfl ?_))))))))
        refine ⟨_, rfl, iteB (fun h => ?_) (fun h => ?_)⟩
        · rw [if_pos h] at hcut
          refine g_CB (g_cons (g_sl (g_var e0 (g_part (g_c ⟨_, rfl, g_part (g_c ⟨_, rfl, ⟨_, rep1, fun v H2 c2 r2 => ?_⟩⟩)⟩)))))
          rw [hcut] at r2
          exact g_nil (fin c2 r2)
        · rw [if_neg (by rw [h]; exact Bool.false_ne_true)] at hcut
          refine g_CB (g_cons (g_sl (g_var e0 (g_part (g_c ⟨_, rfl, g_part (g_op (g_c (g_var e1 (g_I0 ⟨_, rfl, ⟨_, rep1, fun v H2 c2 r2 => ?_⟩⟩))))⟩)))))
          rw [hcut] at r2
          exact g_nil (fin c2 r2)
      walk_at "g"
      refine g_dget2 ?_
      walk_at "g"
      refine ⟨.inl ⟨_, .inl e1⟩, ?_⟩
      walk_at "g"
      refine iteB (fun h1 => ?_) (fun h1 => ?_)
      · rw [if_pos h1] at hmany
        walk_at "g"
        refine ⟨_, DGet.k (k := Sum.inr (wdT t)) e1, ?_⟩
        rw [hmany]
        exact fin2 _ rfl rfl
      · rw [if_neg (by rw [h1]; exact Bool.false_ne_true)] at hmany
        walk_at "g"
        refine ⟨_, DGet.k (k := Sum.inr (wdT t)) e1, ?_⟩
        rw [hmany]
        exact fin2 _ rfl rfl
end
end K3
end

section
set_option maxRecDepth 100000
set_option maxHeartbeats 1000000
open Bq L2
/-- one step of a reading; what is left are side goals and places to think -/
local macro_rules | `(tactic| walk_at "g1") => `(tactic| first
  | with_reducible refine' g_seq ?_ | with_reducible refine' g_asg ?_ | with_reducible refine' g_drop ?_ | with_reducible refine' g_ret ?_ | with_reducible refine' g_ifS ?_ | with_reducible refine' g_asgG ?_
  | ((with_reducible refine' g_var ?hv ?_); (case hv => rfl))
  | with_reducible refine' g_c ?_ | with_reducible refine' g_op ?_ | with_reducible refine' g_un ?_ | with_reducible refine' g_I0 ?_ | with_reducible refine' g_U ?_
  | with_reducible refine' g_test ?_ | with_reducible refine' g_tB ?_ | with_reducible refine Exists.intro _ (And.intro rfl ?_) 
  | ((with_reducible refine' g_andP ?ha ?hb ?_); (case ha => intro R q; walk_at "g"; exact q); (case hb => intro R q; walk_at "g"; exact q))
  | ((with_reducible refine' g_orP ?ha ?hb ?_); (case ha => intro R q; walk_at "g"; exact q); (case hb => intro R q; walk_at "g"; exact q))
  | with_reducible refine' g_and ?_ | with_reducible refine' g_or ?_ | with_reducible refine' g_not ?_
  | with_reducible refine' g_andV ?_ | with_reducible refine' g_orV ?_ | with_reducible refine' g_notV ?_ | with_reducible refine' g_if ?_ | with_reducible refine' g_nil ?_ | with_reducible refine' g_cons ?_
  | with_reducible refine' g_tup ?_ | with_reducible refine' g_lst ?_ | with_reducible refine' g_CB ?_ | with_reducible refine' g_Fn ?_ | with_reducible refine' g_next ?_ | with_reducible refine' g_retN ?_
  | with_reducible refine' g_name ?_ | with_reducible refine' g_sub ?_
  | ((with_reducible refine' g_ixL ?hs ?he ?_); (case hs => walk_at "lk"); (case he => walk_at "at"))
  | ((with_reducible refine' g_ixT ?hs ?he ?_); (case hs => walk_at "lk"); (case he => walk_at "at"))
  | ((with_reducible refine' g_setL ?hs ?he ?_); (case hs => walk_at "hp"); (case he => rfl))
  | ((with_reducible refine' g_app ?hs ?hz ?_); (case hs => walk_at "hp"); (case hz => walk_at "sz"))
  | ((with_reducible refine' ⟨_, _, rfl, Or.inl ?hs, ?_⟩); (case hs => walk_at "lk"))
  | ((with_reducible refine' ⟨_, _, rfl, Or.inr ?hs, ?_⟩); (case hs => walk_at "lk"))
  | with_reducible refine' g_BM ?_ | with_reducible refine' g_BM0 ?_ | ((with_reducible refine' g_tyL ?hs ?_); (case hs => walk_at "lk"))
  | with_reducible refine' g_sl ?_ | with_reducible refine' g_noPart ?_ | with_reducible refine' g_part ?_
  | ((with_reducible refine' g_inT ?hs ?fx ?fs ?_); (case hs => walk_at "lk"); (case fx => rfl); (case fs => rfl))
  | with_reducible refine' g_pair ?_ | with_reducible refine' g_pair0 ?_ | with_reducible refine' g_disp ?_
  | with_reducible refine' g_for ?_ | with_reducible refine' g_tupC ?_ | with_reducible refine' g_lstC ?_ | ((with_reducible refine' g_lens ?_)) | with_reducible refine' g_dg ?_ | with_reducible refine' g_lc ?_ | with_reducible refine' g_rng1 ?_ | with_reducible refine' g_ilist ?_ | with_reducible refine' g_itup ?_
  | ((with_reducible refine' ⟨_, _, rfl, ?hd, ?_⟩); (case hd => walk_at "dg"))
  | ((with_reducible refine' g_eqNil ?hs ?hz ?_); (case hs => walk_at "lk"); (case hz => walk_at "lk"))
  | ((with_reducible refine' g_neNil ?hs ?hz ?_); (case hs => walk_at "lk"); (case hz => walk_at "lk"))
  | with_reducible refine Or.inl ⟨_, rfl, ?_⟩
  | with_reducible refine Or.inr ⟨_, rfl, ?_⟩
  | ((with_reducible refine' g_eq ?hs ?_); (case hs => rfl))
  | ((with_reducible refine' g_ne ?hs ?_); (case hs => rfl))
  | ((with_reducible refine' g_I ?hc ?_); (case hc => walk_at "ar")))
/-- arithmetic's side conditions -/
local macro_rules | `(tactic| walk_at "ar") => `(tactic| (first
  | (show (0 : Int) < _; first | omega | decide) | (show (0 : Int) < _ ∧ _; constructor <;> omega) | (show ¬ (_ : Int) = _; omega) | (show (_ : Int) ≠ _ ∧ _; constructor <;> omega)
  | (show (-(2 ^ 64) < _ ∧ _) ∨ _; (first | (left; constructor <;> omega) | (right; constructor <;> omega))) | (show (0 : Int) ≤ _ ∧ _ ∧ _; refine ⟨by omega, by omega, by decide⟩)))
/-- what stands at an index -/
local macro_rules | `(tactic| walk_at "at") => `(tactic| first | rfl | assumption)
/-- what stands at an address -/
local macro_rules | `(tactic| walk_at "hp") => `(tactic| first | assumption | exact upd_same | ((refine' Eq.trans (upd_ne ?hn) ?hm); (case hm => walk_at "hp"); (case hn => walk_at "ne")))
/-- two places are two -/
local macro_rules | `(tactic| walk_at "ne") => `(tactic| first
  | assumption | exact Ne.symm (by assumption)
  | ((refine' ne_of_none ?ha ?hb); (case hb => assumption); (case ha => walk_at "hp")) | ((refine' Ne.symm (ne_of_none ?ha ?hb)); (case hb => assumption); (case ha => walk_at "hp")))
/-- what a dict tells -/
local macro_rules | `(tactic| walk_at "dg") => `(tactic| first | assumption)
/-- a length -/
local macro_rules | `(tactic| walk_at "sz") => `(tactic| first | (show _ ≤ sizeLine; decide) | (show _ < sizeLine; decide) | assumption | exact szlt (by simp) | exact szle (by simp))
/-- a list or tuple that stands -/
local macro_rules | `(tactic| walk_at "lk") => `(tactic| first | assumption | exact SqL.of (by assumption) | exact SqT.of (by assumption) | exact SqL.of upd_same | exact SqT.of upd_same | (refine' FzL.sq ?hm; (case hm => walk_at "fz")))
/-- a list that nobody writes -/
local macro_rules | `(tactic| walk_at "fz") => `(tactic| first | assumption | ((refine' FzL.uw ?hm ?hx); (case hx => walk_at "hp"); (case hm => walk_at "fz")) | ((refine' FzL.nw ?hm ?hx); (case hx => assumption); (case hm => walk_at "fz")))
/-- as far as it goes by itself -/
local macro_rules | `(tactic| walk_at "g") => `(tactic| repeat walk_at "g1")
/-- the body's reading, its places in short -/
local macro_rules | `(tactic| walk_at "go") => `(tactic| ((try dsimp only [cxOf, Cx.nox, Cx.wish]); walk_at "g"))
namespace K3
open PySem PySem.Spec PyProof.Rows L2 Bq
section
variable {P : Program} {w : World} {K : PySem.W.Frag} {mg : Str → Option Value} {base : Heap}
theorem thing1 {H : Hp} {v : V} {t : Th} (r : Rep K H v (encT t)) : ∃ a us, v = .ref a ∧ SqT K H a (.str (wdT t) :: us) ∧ Reps K H us (restT t) := by
  rw [encT_eq] at r
  obtain ⟨a, vs, rfl, hS, rs⟩ := r.tupI
  obtain ⟨v0, us, rfl, r0, rs2⟩ := rs.consI
  obtain rfl := r0.strI
  exact ⟨a, us, rfl, hS, rs2⟩
theorem encPs_len : ∀ ps : List Pt, (encPs ps).length = ps.length
  | [] => rfl
  | p :: r => congrArg (· + 1) (encPs_len r)
def iv (l : List Int) : List V := l.map V.int
theorem iv_len (l : List Int) : (iv l).length = l.length := List.length_map ..
section
variable {H H' : Hp}
theorem g_sdput {td ty tv : TE} {D : Ends} {σ : L2.St} (h : tv σ H fun v H1 => td σ H1 fun x H2 => ty σ H2 fun y H3 => ∃ a H4, x = .ref a ∧ DPut H3 a y v H4 ∧ D.nx σ H4) : sDPut td ty tv D σ H := h
theorem g_gtup {n : Nat} {t : TGs} {a : Addr} {xs : List V} {σ : L2.St} {Q : L2.St → Hp → Prop} (h : SqT K H a xs) (hl : xs.length = n) (q : t xs σ H Q) : gTup K n t (.ref a) σ H Q := ⟨a, xs, rfl, h, hl, q⟩
theorem g_gcons {t : TG} {u : TGs} {v : V} {r : List V} {σ : L2.St} {Q : L2.St → Hp → Prop} (q : t v σ H fun σ' H' => u r σ' H' Q) : gCons t u (v :: r) σ H Q := ⟨v, r, rfl, q⟩
theorem g_gnil {σ : L2.St} {Q : L2.St → Hp → Prop} (q : Q σ H) : gNil [] σ H Q := ⟨rfl, q⟩
theorem g_notN {v : V} {Q : VK} (q : Q (.bl (!decide (v = .non))) H) : (fun (x y : V) (H : Hp) (Q : VK) => y = .non ∧ Q (.bl (!decide (x = .non))) H) v .non H Q := ⟨rfl, q⟩
end
/-- i <= j < k of ints that are known -/
theorem g_chainR {ta tb tc : TE} {i j k : Int} {σ : L2.St} {H : Hp} {Q : VK} (h1 : ∀ R : VK, R (.int i) H → ta σ H R) (h2 : ∀ R : VK, R (.int j) H → tb σ H R) (h3 : ∀ R : VK, R (.int k) H → tc σ H R)
    (q : Q (.bl (decide (i ≤ j) && decide (j < k))) H) : tChain (rI0 fun i j => V.bl (decide (i ≤ j))) (rI0 fun i j => V.bl (decide (i < j))) ta tb tc σ H Q := by
  refine h1 _ (h2 _ (g_I0 ⟨_, rfl, ?_⟩))
  cases e : decide (i ≤ j) with
  | false =>
    rw [if_neg Bool.false_ne_true]
    rw [e] at q
    exact q
  | true =>
    rw [if_pos rfl]
    rw [e] at q
    exact h3 _ (g_I0 q)
theorem setL_nat {H : Hp} {p : Addr} {xs : List V} {j : Nat} {v : V} {R : Hp → Prop} (h : H p = some (.lst xs)) (hj : j < xs.length) (q : R (upd H p (.lst (xs.set j v)))) : rSetL (.ref p) (.int (j : Nat)) v H R :=
  ⟨p, xs, _, j, rfl, rfl, h, Evl.ixN_nat hj, q⟩
end
end K3
end

section
set_option maxRecDepth 100000
set_option maxHeartbeats 1000000
open Bq L2
/-- one step of a reading; what is left are side goals and places to think -/
local macro_rules | `(tactic| walk_at "g1") => `(tactic| first
  | with_reducible refine' g_seq ?_ | with_reducible refine' g_asg ?_ | with_reducible refine' g_drop ?_ | with_reducible refine' g_ret ?_ | with_reducible refine' g_ifS ?_ | with_reducible refine' g_asgG ?_
  | ((with_reducible refine' g_var ?hv ?_); (case hv => rfl))
  | with_reducible refine' g_c ?_ | with_reducible refine' g_op ?_ | with_reducible refine' g_un ?_ | with_reducible refine' g_I0 ?_ | with_reducible refine' g_U ?_
  | with_reducible refine' g_test ?_ | with_reducible refine' g_tB ?_ | with_reducible refine Exists.intro _ (And.intro rfl ?_) 
  | ((with_reducible refine' g_andP ?ha ?hb ?_); (case ha => intro R q; walk_at "g"; exact q); (case hb => intro R q; walk_at "g"; exact q))
  | ((with_reducible refine' g_orP ?ha ?hb ?_); (case ha => intro R q; walk_at "g"; exact q); (case hb => intro R q; walk_at "g"; exact q))
  | with_reducible refine' g_and ?_ | with_reducible refine' g_or ?_ | with_reducible refine' g_not ?_
  | with_reducible refine' g_andV ?_ | with_reducible refine' g_orV ?_ | with_reducible refine' g_notV ?_ | with_reducible refine' g_if ?_ | with_reducible refine' g_nil ?_ | with_reducible refine' g_cons ?_
  | with_reducible refine' g_tup ?_ | with_reducible refine' g_lst ?_ | with_reducible refine' g_CB ?_ | with_reducible refine' g_Fn ?_ | with_reducible refine' g_next ?_ | with_reducible refine' g_retN ?_
  | with_reducible refine' g_name ?_ | with_reducible refine' g_sub ?_
  | ((with_reducible refine' g_ixL ?hs ?he ?_); (case hs => walk_at "lk"); (case he => walk_at "at"))
  | ((with_reducible refine' g_ixT ?hs ?he ?_); (case hs => walk_at "lk"); (case he => walk_at "at"))
  | ((with_reducible refine' g_setL ?hs ?he ?_); (case hs => walk_at "hp"); (case he => rfl))
  | ((with_reducible refine' g_app ?hs ?hz ?_); (case hs => walk_at "hp"); (case hz => walk_at "sz"))
  | ((with_reducible refine' ⟨_, _, rfl, Or.inl ?hs, ?_⟩); (case hs => walk_at "lk"))
  | ((with_reducible refine' ⟨_, _, rfl, Or.inr ?hs, ?_⟩); (case hs => walk_at "lk"))
  | with_reducible refine' g_BM ?_ | with_reducible refine' g_BM0 ?_ | ((with_reducible refine' g_tyL ?hs ?_); (case hs => walk_at "lk"))
  | with_reducible refine' g_sl ?_ | with_reducible refine' g_noPart ?_ | with_reducible refine' g_part ?_
  | ((with_reducible refine' g_inT ?hs ?fx ?fs ?_); (case hs => walk_at "lk"); (case fx => rfl); (case fs => rfl))
  | with_reducible refine' g_pair ?_ | with_reducible refine' g_pair0 ?_ | with_reducible refine' g_disp ?_
  | with_reducible refine' g_for ?_ | with_reducible refine' g_tupC ?_ | with_reducible refine' g_lstC ?_ | ((with_reducible refine' g_lens ?_)) | with_reducible refine' g_dg ?_ | with_reducible refine' g_lc ?_ | with_reducible refine' g_rng1 ?_ | with_reducible refine' g_ilist ?_ | with_reducible refine' g_itup ?_
  | ((with_reducible refine' ⟨_, _, rfl, ?hd, ?_⟩); (case hd => walk_at "dg"))
  | ((with_reducible refine' g_eqNil ?hs ?hz ?_); (case hs => walk_at "lk"); (case hz => walk_at "lk"))
  | ((with_reducible refine' g_neNil ?hs ?hz ?_); (case hs => walk_at "lk"); (case hz => walk_at "lk"))
  | with_reducible refine Or.inl ⟨_, rfl, ?_⟩
  | with_reducible refine Or.inr ⟨_, rfl, ?_⟩
  | ((with_reducible refine' g_eq ?hs ?_); (case hs => rfl))
  | ((with_reducible refine' g_ne ?hs ?_); (case hs => rfl))
  | ((with_reducible refine' g_I ?hc ?_); (case hc => walk_at "ar")))
/-- arithmetic's side conditions -/
local macro_rules | `(tactic| walk_at "ar") => `(tactic| (first
  | (show (0 : Int) < _; first | omega | decide) | (show (0 : Int) < _ ∧ _; constructor <;> omega) | (show ¬ (_ : Int) = _; omega) | (show (_ : Int) ≠ _ ∧ _; constructor <;> omega)
  | (show (-(2 ^ 64) < _ ∧ _) ∨ _; (first | (left; constructor <;> omega) | (right; constructor <;> omega))) | (show (0 : Int) ≤ _ ∧ _ ∧ _; refine ⟨by omega, by omega, by decide⟩)))
/-- what stands at an index -/
local macro_rules | `(tactic| walk_at "at") => `(tactic| first | rfl | assumption)
/-- what stands at an address -/
local macro_rules | `(tactic| walk_at "hp") => `(tactic| first | assumption | exact upd_same | ((refine' Eq.trans (upd_ne ?hn) ?hm); (case hm => walk_at "hp"); (case hn => walk_at "ne")))
/-- two places are two -/
local macro_rules | `(tactic| walk_at "ne") => `(tactic| first
  | assumption | exact Ne.symm (by assumption)
  | ((refine' ne_of_none ?ha ?hb); (case hb => assumption); (case ha => walk_at "hp")) | ((refine' Ne.symm (ne_of_none ?ha ?hb)); (case hb => assumption); (case ha => walk_at "hp")))
/-- what a dict tells -/
local macro_rules | `(tactic| walk_at "dg") => `(tactic| first | assumption)
/-- a length -/
local macro_rules | `(tactic| walk_at "sz") => `(tactic| first | (show _ ≤ sizeLine; decide) | (show _ < sizeLine; decide) | assumption | exact szlt (by simp) | exact szle (by simp))
/-- a list or tuple that stands -/
local macro_rules | `(tactic| walk_at "lk") => `(tactic| first | assumption | exact SqL.of (by assumption) | exact SqT.of (by assumption) | exact SqL.of upd_same | exact SqT.of upd_same | (refine' FzL.sq ?hm; (case hm => walk_at "fz")))
/-- a list that nobody writes -/
local macro_rules | `(tactic| walk_at "fz") => `(tactic| first | assumption | ((refine' FzL.uw ?hm ?hx); (case hx => walk_at "hp"); (case hm => walk_at "fz")) | ((refine' FzL.nw ?hm ?hx); (case hx => assumption); (case hm => walk_at "fz")))
/-- as far as it goes by itself -/
local macro_rules | `(tactic| walk_at "g") => `(tactic| repeat walk_at "g1")
/-- the body's reading, its places in short -/
local macro_rules | `(tactic| walk_at "go") => `(tactic| ((try dsimp only [cxOf, Cx.nox, Cx.wish]); walk_at "g"))
namespace K3
open PySem PySem.Spec PyProof.Rows L2 Bq
section
variable {P : Program} {w : World} {K : PySem.W.Frag} {mg : Str → Option Value} {base : Heap}
/-- further steps: dicts written, tuples taken apart -/
local macro_rules | `(tactic| walk_at "g1") => `(tactic| first
  | with_reducible refine' g_sdput ?_
  | ((with_reducible refine' g_gtup ?hs ?hl ?_); (case hs => walk_at "lk"); (case hl => rfl))
  | with_reducible refine' g_gcons ?_
  | with_reducible refine' g_gnil ?_
  | with_reducible refine' And.intro (Eq.refl V.non) ?_
  | with_reducible refine' g_isN ?_
  | ((with_reducible refine' g_chainR ?ha ?hb ?hc ?_); (case ha => intro R q; walk_at "g"; exact q); (case hb => intro R q; walk_at "g"; exact q); (case hc => intro R q; walk_at "g"; exact q))
  | with_reducible refine' g_notN ?_)
/-- what the law's dict tells -/
local macro_rules | `(tactic| walk_at "dg") => `(tactic| first
  | assumption
  | exact LH.gfuns (by assumption)
  | exact LH.gsaid (by assumption)
  | exact LH.gcells (by assumption)
  | exact LH.gfuel (by assumption)
  | exact LH.gend (by assumption)
  | exact LH.gcalls (by assumption)
  | exact LH.gnames (by assumption)
  | exact LH.gwaits (by assumption)
  | exact LH.gworth (by assumption)
  | exact LH.glook (by assumption))
/-- a test that fails, that holds, by itself -/
local macro_rules | `(tactic| walk_at "no") => `(tactic| ((refine tkF rfl ?_); walk_at "g"))
local macro_rules | `(tactic| walk_at "yes") => `(tactic| ((refine tkT rfl ?_); walk_at "g"))
local macro_rules | `(tactic| walk_at "g1") => `(tactic| first
  | with_reducible refine' g_catS ?_
  | with_reducible refine' g_mulS ?_
  | with_reducible refine' g_rev ?_)
section
variable {te : TE} {σ : L2.St} {H : Hp} {Q : VK} {D : Ends}
theorem g_revL (h : te σ H fun x H1 => ∃ a xs, x = .ref a ∧ SqL K H1 a xs ∧ ∀ p, H1 p = none → Q (.ref p) (upd H1 p (.lst xs.reverse))) : tRevL K te σ H Q := h
theorem g_minL {p : Addr} {ns : List Int} (h : SqL K H p (ns.map V.int) ∧ ns ≠ [] ∧ ∀ m, m ∈ ns → (∀ a ∈ ns, m ≤ a) → Q (.int m) H) : rMinL K [.ref p] H Q := ⟨p, ns, rfl, h.1, h.2.1, h.2.2⟩
theorem g_augS {to ti te : TE} {tget : V → V → Hp → VK → Prop} {tip : TIp} {tset : TSet} (h : to σ H fun o H1 => ti σ H1 fun i H2 => tget o i H2 fun x H3 => te σ H3 fun y H4 => tip x y H4 fun z H5 => tset o i z H5 fun H6 => D.nx σ H6) : tAugS to ti te tget tip tset D σ H := h
theorem g_ipI {f : Int → Int → Int} {i j : Int} {Q : VK} (q : Q (.int (f i j)) H) : ipI f (.int i) (.int j) H Q := ⟨i, j, rfl, rfl, q⟩
theorem g_getL {p : Addr} {xs : List V} {j : Nat} {z : V} (h : SqL K H p xs) (e : xs[j]? = some z) (q : Q z H) : rGetL K (.ref p) (.int (j : Nat)) H Q := ⟨p, xs, j, z, rfl, rfl, h, e, q⟩
theorem g_enum {ta : TA} {R : It → Hp → Prop} (h : ta σ H fun vs H1 => ∃ a xs, vs = [.ref a] ∧ SqL K H1 a xs ∧ R (Ite K a) H1) : iEnum K ta σ H R := h
end
/-- numbers in lists, more -/
local macro_rules | `(tactic| walk_at "g1") => `(tactic| first
  | with_reducible refine' g_augS ?_
  | with_reducible refine' g_ipI ?_
  | with_reducible refine' g_revL ?_
  | ((with_reducible refine' g_getL ?hs ?he ?_); (case hs => walk_at "lk"); (case he => walk_at "at"))
  | with_reducible refine' g_enum ?_)
open Fl
def lnkT (l : Lnk) : T := .tup [.int (l.lo : Nat), .int (l.up : Nat), .int l.ri]
def stpT (s : Stp) : T := .tup [.int (s.st : Nat), .int (s.en : Nat), .int s.ri, .int (s.lk : Nat), .int s.ch]
theorem lnk_at {H : Hp} {v : V} {l : Lnk} (r : Rep K H v (lnkT l)) : ∃ a, v = .ref a ∧ SqT K H a [.int (l.lo : Nat), .int (l.up : Nat), .int l.ri] := by
  obtain ⟨a, vs, rfl, hS, rs⟩ := r.tupI
  obtain ⟨v1, vs1, rfl, r1, rs1⟩ := rs.consI
  obtain ⟨v2, vs2, rfl, r2, rs2⟩ := rs1.consI
  obtain ⟨v3, vs3, rfl, r3, rs3⟩ := rs2.consI
  obtain rfl := r1.intI
  obtain rfl := r2.intI
  obtain rfl := r3.intI
  obtain rfl := rs3.nilI
  exact ⟨a, rfl, hS⟩
theorem stp_at {H : Hp} {v : V} {s : Stp} (r : Rep K H v (stpT s)) : ∃ a, v = .ref a ∧ SqT K H a [.int (s.st : Nat), .int (s.en : Nat), .int s.ri, .int (s.lk : Nat), .int s.ch] := by
  obtain ⟨a, vs, rfl, hS, rs⟩ := r.tupI
  obtain ⟨v1, vs1, rfl, r1, rs1⟩ := rs.consI
  obtain ⟨v2, vs2, rfl, r2, rs2⟩ := rs1.consI
  obtain ⟨v3, vs3, rfl, r3, rs3⟩ := rs2.consI
  obtain ⟨v4, vs4, rfl, r4, rs4⟩ := rs3.consI
  obtain ⟨v5, vs5, rfl, r5, rs5⟩ := rs4.consI
  obtain rfl := r1.intI
  obtain rfl := r2.intI
  obtain rfl := r3.intI
  obtain rfl := r4.intI
  obtain rfl := r5.intI
  obtain rfl := rs5.nilI
  exact ⟨a, rfl, hS⟩
theorem reps_map {α : Type} {f : α → T} {H : Hp} {vs : List V} {l : List α} {i : Nat} {v : V} (r : Reps K H vs (l.map f)) (h : vs[i]? = some v) : ∃ x, l[i]? = some x ∧ Rep K H v (f x) := by
  obtain ⟨t, ht, rt⟩ := r.get h
  rw [List.getElem?_map] at ht
  cases e : l[i]? with
  | none => rw [e] at ht; cases ht
  | some x =>
    rw [e] at ht
    cases ht
    exact ⟨x, rfl, rt⟩
theorem reps_snoc {H : Hp} {vs : List V} {ts : List T} {v : V} {t : T} (r : Reps K H vs ts) (h : Rep K H v t) : Reps K H (vs ++ [v]) (ts ++ [t]) := r.append (.cons h .nil)
theorem take_snoc {α : Type} {l : List α} {i : Nat} {x : α} (h : l[i]? = some x) : l.take (i + 1) = l.take i ++ [x] := by
  rw [List.take_succ, h]
  rfl
theorem steps_snoc : ∀ {L : List Lnk} {fs : List Int} {i k : Nat} {l : Lnk} {f : Int}, L[k]? = some l → fs[k]? = some f → stepsFrom (L.take (k + 1)) (fs.take (k + 1)) i = stepsFrom (L.take k) (fs.take k) i ++ stepsL l f (i + k)
  | [], _, i, k, l, f, h, _ => by simp at h
  | l0 :: r, [], i, k, l, f, _, h => by simp at h
  | l0 :: r, f0 :: fs, i, 0, l, f, h, g => by
    simp at h g
    subst h g
    simp [stepsFrom]
  | l0 :: r, f0 :: fs, i, k + 1, l, f, h, g => by
    have := steps_snoc (L := r) (fs := fs) (i := i + 1) (k := k) (l := l) (f := f) (by simpa using h) (by simpa using g)
    simp only [List.take_succ_cons, stepsFrom, List.append_assoc] at this ⊢
    rw [this, show i + 1 + k = i + (k + 1) by omega]
def spSteps (K : PySem.W.Frag) : Sp := fun vs H Q _ => ∃ a b us L fs, vs = [.ref a, .ref b] ∧ SqL K H a us ∧ Reps K H us (L.map lnkT) ∧ SqL K H b (iv fs) ∧ L.length = fs.length ∧ L.length ≤ 1000 ∧
  ∀ H' l ws, Ch K [] H H' → H l = none → H' l = some (.lst ws) → Reps K H' ws ((stepsOf L fs).map stpT) → Q (.ref l) H'
theorem fn_steps (C : Cn w K mg base) : Fn P w K mg base CX0 1 "steps_left" ["links", "flows"] (spSteps K) := C.f_steps_left fun fd F => by
  refine F.ok (CX := CX0) sc_steps_left (fun vs H Q E h => ?_) (fun cdv A outer s H vs Q E hr h => ?_)
  · obtain ⟨a, b, us, L, fs, rfl, _⟩ := h
    rfl
  · obtain ⟨a, b, us, L, fs, rfl, ha, ru, hb, hl, hz, q⟩ := h
    refine ⟨_, PSs.nox (pss_cons (ps_set (i := 2) sc_steps_left.nd rfl (Or.inl rfl) (pe_lstC pa_nil))
      (pss_cons (ps_for PassesOwn.never rfl (pi_enum (by rfl) (C.m_enumerate) (pa_cons (pv 0) pa_nil)) (pg_tup rfl (pgs_cons (pg_name (i := 3) sc_steps_left.nd rfl (Or.inl rfl)) (pgs_cons (pg_tup rfl (pgs_cons (pg_name (i := 4) sc_steps_left.nd rfl (Or.inl rfl)) (pgs_cons (pg_name (i := 5) sc_steps_left.nd rfl (Or.inl rfl)) (pgs_cons (pg_name (i := 6) sc_steps_left.nd rfl (Or.inl rfl)) pgs_nil)))) pgs_nil))) (pss_cons (ps_expr (pe_bm PySem.F.plainAttrs_list PySem.F.slot_list_append PySem.F.type_list_append mt_append (pv 2) (pa_cons (pe_tupC (pa_cons (pv 4) (pa_cons (pv 5) (pa_cons (pv 6) (pa_cons (pv 3) (pa_cons pe_int pa_nil)))))) pa_nil)))
      (pss_one (ps_if (pt_cmpR op_gt (pe_ix ix_list (pv 1) (pv 3) (fun _ _ => rfl)) pe_int (nomark _)) (pss_one (ps_expr (pe_bm PySem.F.plainAttrs_list PySem.F.slot_list_append PySem.F.type_list_append mt_append (pv 2) (pa_cons (pe_tupC (pa_cons (pv 5) (pa_cons (pv 4) (pa_cons (pe_un un_neg (pv 6)) (pa_cons (pv 3) (pa_cons (pe_un un_neg pe_int) pa_nil)))))) pa_nil)))) pss_nil))))
      (pss_one (ps_ret (pv 2))))), ?_⟩
    have lu : us.length = L.length := by rw [ru.len, List.length_map]
    walk_at "go"
    refine ⟨szle (by simp), fun l H1 n1 e1 c1 => ?_⟩
    have ha1 := c1.sqL ha (by simp)
    walk_at "g"
    refine for_it (walk_enum (xs := us)) (fun i σ H' => ∃ x3 x4 x5 x6 ws, σ = [some (.ref a), some (.ref b), some (.ref l), x3, x4, x5, x6] ∧ Ch K [] H H' ∧ H' l = some (.lst ws) ∧ Reps K H' ws ((stepsFrom (L.take i) (fs.take i) 0).map stpT)) ⟨none, none, none, none, [], rfl, c1, e1, by rw [List.take_zero]; exact .nil⟩ (fun i σ H' _ ⟨_, _, _, _, _, _, c, _⟩ => c.sqL ha (by simp)) ?_ ?_
    · rintro i x1 σ H2 H3 hi ⟨x3, x4, x5, x6, ws, rfl, c2, e2, r2⟩ ⟨T1, xa, xb, rfl, nT, rfl, exa, hx⟩
      cases exa
      have hx : us[i]? = some xb := hx
      obtain ⟨ln, hln, rl⟩ := reps_map ru hx
      have hfi : i < fs.length := by omega
      have hf := List.getElem?_eq_getElem hfi
      generalize fs[i] = f at hf
      have c3 : Ch K [] H2 (upd H2 T1 (.tup [.int (i : Nat), xb])) := Ch.new nT
      have eT : (upd H2 T1 (.tup [.int (i : Nat), xb])) T1 = some (.tup [.int (i : Nat), xb]) := upd_same
      generalize upd H2 T1 (.tup [.int (i : Nat), xb]) = H3 at c3 eT ⊢
      have c23 := c2.trans c3
      have e3 := c3.up _ _ e2 (by simp)
      have r3 := r2.kt c3.kt
      obtain ⟨la, rfl, hla⟩ := lnk_at (rl.kt c23.kt)
      refine g_gtup (SqT.of eT) rfl ?_
      have hlz : ws.length ≤ 2 * L.length := by
        have h1 := r2.len
        have h2 := steps_len (L.take i) (fs.take i) 0
        rw [List.length_map] at h1
        have h3 : (L.take i).length ≤ L.length := by rw [List.length_take]; omega
        omega
      walk_at "g"
      refine ⟨szle (by simp), fun t1 H4 n4 e4 c4 => ?_⟩
      have el4 := c4.up _ _ e3 (by simp)
      have hz1 : ws.length < sizeLine := by rw [sizeLine_eq]; omega
      have c24 := c23.trans c4
      have hb4 := c24.sqL hb (by simp)
      walk_at "g"
      have c5 : Ch K [] H (upd H4 l (.lst (ws ++ [.ref t1]))) := Ch.wrN c24 n1 el4 rfl
      have k5 : Kt K H4 (upd H4 l (.lst (ws ++ [.ref t1]))) := (Ch.wr (S := [l]) el4 rfl (by simp)).kt
      have e5 : (upd H4 l (.lst (ws ++ [.ref t1]))) l = some (.lst (ws ++ [.ref t1])) := upd_same
      generalize upd H4 l (.lst (ws ++ [.ref t1])) = H5 at c5 k5 e5 ⊢
      have r5 : Reps K H5 (ws ++ [.ref t1]) ((stepsFrom (L.take i) (fs.take i) 0 ++ [(⟨ln.lo, ln.up, ln.ri, i, 1⟩ : Stp)]).map stpT) := by
        rw [List.map_append]
        exact reps_snoc (r3.kt (c4.kt.trans k5)) (.tup (k5.t _ _ (SqT.of e4)) (.cons (.int _) (.cons (.int _) (.cons (.int _) (.cons (.int _) (.cons (.int _) .nil))))))
      have hb5 := c5.sqL hb (by simp)
      have hz2 : (ws ++ [V.ref t1]).length < sizeLine := by rw [sizeLine_eq, List.length_append]; simp; omega
      have hst : stepsFrom (L.take (i + 1)) (fs.take (i + 1)) 0 = stepsFrom (L.take i) (fs.take i) 0 ++ stepsL ln f i := by
        rw [steps_snoc hln hf, Nat.zero_add]
      walk_at "g"
      refine g_ixL hb5 (atI_nat (j := i) (by unfold iv; rw [List.getElem?_map, hf]; rfl)) ?_
      walk_at "g"
      refine iteB (fun h0 => ?_) (fun h0 => ?_)
      · have h0' : f > 0 := by simpa using h0
        walk_at "g"
        refine ⟨szle (by simp), fun t2 H6 n6 e6 c6 => ?_⟩
        have el6 := c6.up _ _ e5 (by simp)
        walk_at "g"
        have k7 : Kt K H6 (upd H6 l (.lst (ws ++ [.ref t1] ++ [.ref t2]))) := (Ch.wr (S := [l]) el6 rfl (by simp)).kt
        refine ⟨_, _, _, _, _, rfl, Ch.wrN (c5.trans c6) n1 el6 rfl, upd_same, ?_⟩
        rw [hst]
        unfold stepsL
        rw [if_pos h0', show ∀ (x y : Stp) (l : List Stp), l ++ (x :: [y]) = (l ++ [x]) ++ [y] from fun x y l => by simp, List.map_append]
        exact reps_snoc (r5.kt (c6.kt.trans k7)) (.tup (k7.t _ _ (SqT.of e6)) (.cons (.int _) (.cons (.int _) (.cons (.int _) (.cons (.int _) (.cons (.int _) .nil))))))
      · have h0' : ¬ f > 0 := by simpa using h0
        walk_at "g"
        refine ⟨_, _, _, _, _, rfl, c5, e5, ?_⟩
        rw [hst]
        unfold stepsL
        rw [if_neg h0']
        exact r5
    · rintro σ H2 ⟨x3, x4, x5, x6, ws, rfl, c2, e2, r2⟩
      walk_at "g"
      rw [lu, List.take_length, hl, List.take_length] at r2
      exact q _ _ ws c2 n1 e2 r2
end
end K3
end

section
set_option maxRecDepth 100000
set_option maxHeartbeats 1000000
open Bq L2
/-- one step of a reading; what is left are side goals and places to think -/
local macro_rules | `(tactic| walk_at "g1") => `(tactic| first
  | with_reducible refine' g_seq ?_ | with_reducible refine' g_asg ?_ | with_reducible refine' g_drop ?_ | with_reducible refine' g_ret ?_ | with_reducible refine' g_ifS ?_ | with_reducible refine' g_asgG ?_
  | ((with_reducible refine' g_var ?hv ?_); (case hv => rfl))
  | with_reducible refine' g_c ?_ | with_reducible refine' g_op ?_ | with_reducible refine' g_un ?_ | with_reducible refine' g_I0 ?_ | with_reducible refine' g_U ?_
  | with_reducible refine' g_test ?_ | with_reducible refine' g_tB ?_ | with_reducible refine Exists.intro _ (And.intro rfl ?_) 
  | ((with_reducible refine' g_andP ?ha ?hb ?_); (case ha => intro R q; walk_at "g"; exact q); (case hb => intro R q; walk_at "g"; exact q))
  | ((with_reducible refine' g_orP ?ha ?hb ?_); (case ha => intro R q; walk_at "g"; exact q); (case hb => intro R q; walk_at "g"; exact q))
  | with_reducible refine' g_and ?_ | with_reducible refine' g_or ?_ | with_reducible refine' g_not ?_
  | with_reducible refine' g_andV ?_ | with_reducible refine' g_orV ?_ | with_reducible refine' g_notV ?_ | with_reducible refine' g_if ?_ | with_reducible refine' g_nil ?_ | with_reducible refine' g_cons ?_
  | with_reducible refine' g_tup ?_ | with_reducible refine' g_lst ?_ | with_reducible refine' g_CB ?_ | with_reducible refine' g_Fn ?_ | with_reducible refine' g_next ?_ | with_reducible refine' g_retN ?_
  | with_reducible refine' g_name ?_ | with_reducible refine' g_sub ?_
  | ((with_reducible refine' g_ixL ?hs ?he ?_); (case hs => walk_at "lk"); (case he => walk_at "at"))
  | ((with_reducible refine' g_ixT ?hs ?he ?_); (case hs => walk_at "lk"); (case he => walk_at "at"))
  | ((with_reducible refine' g_setL ?hs ?he ?_); (case hs => walk_at "hp"); (case he => rfl))
  | ((with_reducible refine' g_app ?hs ?hz ?_); (case hs => walk_at "hp"); (case hz => walk_at "sz"))
  | ((with_reducible refine' ⟨_, _, rfl, Or.inl ?hs, ?_⟩); (case hs => walk_at "lk"))
  | ((with_reducible refine' ⟨_, _, rfl, Or.inr ?hs, ?_⟩); (case hs => walk_at "lk"))
  | with_reducible refine' g_BM ?_ | with_reducible refine' g_BM0 ?_ | ((with_reducible refine' g_tyL ?hs ?_); (case hs => walk_at "lk"))
  | with_reducible refine' g_sl ?_ | with_reducible refine' g_noPart ?_ | with_reducible refine' g_part ?_
  | ((with_reducible refine' g_inT ?hs ?fx ?fs ?_); (case hs => walk_at "lk"); (case fx => rfl); (case fs => rfl))
  | with_reducible refine' g_pair ?_ | with_reducible refine' g_pair0 ?_ | with_reducible refine' g_disp ?_
  | with_reducible refine' g_for ?_ | with_reducible refine' g_tupC ?_ | with_reducible refine' g_lstC ?_ | ((with_reducible refine' g_lens ?_)) | with_reducible refine' g_dg ?_ | with_reducible refine' g_lc ?_ | with_reducible refine' g_rng1 ?_ | with_reducible refine' g_ilist ?_ | with_reducible refine' g_itup ?_
  | ((with_reducible refine' ⟨_, _, rfl, ?hd, ?_⟩); (case hd => walk_at "dg"))
  | ((with_reducible refine' g_eqNil ?hs ?hz ?_); (case hs => walk_at "lk"); (case hz => walk_at "lk"))
  | ((with_reducible refine' g_neNil ?hs ?hz ?_); (case hs => walk_at "lk"); (case hz => walk_at "lk"))
  | with_reducible refine Or.inl ⟨_, rfl, ?_⟩
  | with_reducible refine Or.inr ⟨_, rfl, ?_⟩
  | ((with_reducible refine' g_eq ?hs ?_); (case hs => rfl))
  | ((with_reducible refine' g_ne ?hs ?_); (case hs => rfl))
  | ((with_reducible refine' g_I ?hc ?_); (case hc => walk_at "ar")))
/-- arithmetic's side conditions -/
local macro_rules | `(tactic| walk_at "ar") => `(tactic| (first
  | (show (0 : Int) < _; first | omega | decide) | (show (0 : Int) < _ ∧ _; constructor <;> omega) | (show ¬ (_ : Int) = _; omega) | (show (_ : Int) ≠ _ ∧ _; constructor <;> omega)
  | (show (-(2 ^ 64) < _ ∧ _) ∨ _; (first | (left; constructor <;> omega) | (right; constructor <;> omega))) | (show (0 : Int) ≤ _ ∧ _ ∧ _; refine ⟨by omega, by omega, by decide⟩)))
/-- what stands at an index -/
local macro_rules | `(tactic| walk_at "at") => `(tactic| first | rfl | assumption)
/-- what stands at an address -/
local macro_rules | `(tactic| walk_at "hp") => `(tactic| first | assumption | exact upd_same | ((refine' Eq.trans (upd_ne ?hn) ?hm); (case hm => walk_at "hp"); (case hn => walk_at "ne")))
/-- two places are two -/
local macro_rules | `(tactic| walk_at "ne") => `(tactic| first
  | assumption | exact Ne.symm (by assumption)
  | ((refine' ne_of_none ?ha ?hb); (case hb => assumption); (case ha => walk_at "hp")) | ((refine' Ne.symm (ne_of_none ?ha ?hb)); (case hb => assumption); (case ha => walk_at "hp")))
/-- what a dict tells -/
local macro_rules | `(tactic| walk_at "dg") => `(tactic| first | assumption)
/-- a length -/
local macro_rules | `(tactic| walk_at "sz") => `(tactic| first | (show _ ≤ sizeLine; decide) | (show _ < sizeLine; decide) | assumption | exact szlt (by simp) | exact szle (by simp))
/-- a list or tuple that stands -/
local macro_rules | `(tactic| walk_at "lk") => `(tactic| first | assumption | exact SqL.of (by assumption) | exact SqT.of (by assumption) | exact SqL.of upd_same | exact SqT.of upd_same | (refine' FzL.sq ?hm; (case hm => walk_at "fz")))
/-- a list that nobody writes -/
local macro_rules | `(tactic| walk_at "fz") => `(tactic| first | assumption | ((refine' FzL.uw ?hm ?hx); (case hx => walk_at "hp"); (case hm => walk_at "fz")) | ((refine' FzL.nw ?hm ?hx); (case hx => assumption); (case hm => walk_at "fz")))
/-- as far as it goes by itself -/
local macro_rules | `(tactic| walk_at "g") => `(tactic| repeat walk_at "g1")
/-- the body's reading, its places in short -/
local macro_rules | `(tactic| walk_at "go") => `(tactic| ((try dsimp only [cxOf, Cx.nox, Cx.wish]); walk_at "g"))
namespace K3
open PySem PySem.Spec PyProof.Rows L2 Bq
section
variable {P : Program} {w : World} {K : PySem.W.Frag} {mg : Str → Option Value} {base : Heap}
/-- further steps: dicts written, tuples taken apart -/
local macro_rules | `(tactic| walk_at "g1") => `(tactic| first
  | with_reducible refine' g_sdput ?_
  | ((with_reducible refine' g_gtup ?hs ?hl ?_); (case hs => walk_at "lk"); (case hl => rfl))
  | with_reducible refine' g_gcons ?_
  | with_reducible refine' g_gnil ?_
  | with_reducible refine' And.intro (Eq.refl V.non) ?_
  | with_reducible refine' g_isN ?_
  | ((with_reducible refine' g_chainR ?ha ?hb ?hc ?_); (case ha => intro R q; walk_at "g"; exact q); (case hb => intro R q; walk_at "g"; exact q); (case hc => intro R q; walk_at "g"; exact q))
  | with_reducible refine' g_notN ?_)
/-- what the law's dict tells -/
local macro_rules | `(tactic| walk_at "dg") => `(tactic| first
  | assumption
  | exact LH.gfuns (by assumption)
  | exact LH.gsaid (by assumption)
  | exact LH.gcells (by assumption)
  | exact LH.gfuel (by assumption)
  | exact LH.gend (by assumption)
  | exact LH.gcalls (by assumption)
  | exact LH.gnames (by assumption)
  | exact LH.gwaits (by assumption)
  | exact LH.gworth (by assumption)
  | exact LH.glook (by assumption))
/-- a test that fails, that holds, by itself -/
local macro_rules | `(tactic| walk_at "no") => `(tactic| ((refine tkF rfl ?_); walk_at "g"))
local macro_rules | `(tactic| walk_at "yes") => `(tactic| ((refine tkT rfl ?_); walk_at "g"))
local macro_rules | `(tactic| walk_at "g1") => `(tactic| first
  | with_reducible refine' g_catS ?_
  | with_reducible refine' g_mulS ?_
  | with_reducible refine' g_rev ?_)
/-- numbers in lists, more -/
local macro_rules | `(tactic| walk_at "g1") => `(tactic| first
  | with_reducible refine' g_augS ?_
  | with_reducible refine' g_ipI ?_
  | with_reducible refine' g_revL ?_
  | ((with_reducible refine' g_getL ?hs ?he ?_); (case hs => walk_at "lk"); (case he => walk_at "at"))
  | with_reducible refine' g_enum ?_)
open Fl
theorem atI_last {xs : List V} {x : V} : atI (xs ++ [x]) (-1) = some x := by
  have e : ixN (xs ++ [x]).length (-1) = some xs.length := by
    unfold ixN
    simp only [List.length_append, List.length_cons, List.length_nil]
    split
    · omega
    · split
      · congr 1
        omega
      · omega
  unfold atI
  rw [e]
  simp
def hv (n : Nat) (h : Nat → Int) : List V := (List.range n).map fun v => V.int (h v)
def cvs (n : Nat) (cb : Nat → Option Nat) (ws : List V) : List V := (List.range n).map fun v => match cb v with | none => V.non | some k => ws.getD k V.non
theorem hv_len (n : Nat) (h : Nat → Int) : (hv n h).length = n := by simp [hv]
theorem cvs_len (n : Nat) (cb : Nat → Option Nat) (ws : List V) : (cvs n cb ws).length = n := by simp [cvs]
theorem hv_at {n v : Nat} {h : Nat → Int} (hv' : v < n) : (hv n h)[v]? = some (.int (h v)) := by
  simp [hv, List.getElem?_range hv']
theorem map_range_set {α : Type} (f : Nat → α) (n e : Nat) (x : α) : ((List.range n).map f).set e x = (List.range n).map (fupd f e x) := by
  apply List.ext_getElem?
  intro i
  by_cases hi : i < n
  · rw [List.getElem?_set]
    by_cases he : e = i
    · subst he
      rw [if_pos rfl, if_pos (by simpa using hi)]
      simp [List.getElem?_range hi, fupd]
    · rw [if_neg he, List.getElem?_map, List.getElem?_map, List.getElem?_range hi]
      simp [fupd, Ne.symm he]
  · rw [List.getElem?_eq_none (by simpa using hi), List.getElem?_eq_none (by simpa using hi)]
theorem hv_set (n e : Nat) (h : Nat → Int) (x : Int) : (hv n h).set e (.int x) = hv n (fupd h e x) := by
  unfold hv
  rw [map_range_set]
  congr 1
  funext v
  unfold fupd
  split <;> rfl
theorem cvs_set (n e k : Nat) (cb : Nat → Option Nat) (ws : List V) : (cvs n cb ws).set e (ws.getD k V.non) = cvs n (fupd cb e (some k)) ws := by
  unfold cvs
  rw [map_range_set]
  congr 1
  funext v
  unfold fupd
  split <;> rfl
theorem cvs_at {n v k : Nat} {cb : Nat → Option Nat} {ws : List V} (hv' : v < n) (e : cb v = some k) : (cvs n cb ws)[v]? = some (ws.getD k V.non) := by
  simp [cvs, List.getElem?_range hv', e]
theorem step_val {H : Hp} {ws : List V} {S : List Stp} {k : Nat} {s : Stp} (r : Reps K H ws (S.map stpT)) (e : S[k]? = some s) : ∃ a, ws.getD k V.non = .ref a ∧ ws[k]? = some (.ref a) ∧ SqT K H a [.int (s.st : Nat), .int (s.en : Nat), .int s.ri, .int (s.lk : Nat), .int s.ch] := by
  obtain ⟨v, hv, rv⟩ := r.getT (i := k) (t := stpT s) (by rw [List.getElem?_map, e]; rfl)
  obtain ⟨a, rfl, ha⟩ := stp_at rv
  exact ⟨a, by rw [List.getD_eq_getElem?_getD, hv]; rfl, hv, ha⟩
def ringV (ws : List V) (R : List (Nat × Stp)) : List V := R.map fun q => ws.getD q.1 V.non
def spRingB (K : PySem.W.Frag) : Sp := fun vs H Q _ => ∃ (e : Nat) (cl : Addr) (n : Nat) (S : List Stp) (h : Nat → Int) (cb : Nat → Option Nat) (p j : Nat) (ws : List V), vs = [.int (e : Nat), .ref cl] ∧ SqL K H cl (cvs n cb ws) ∧ Reps K H ws (S.map stpT) ∧ Okst n S ∧ CI n S p j h cb (some e) ∧ n ≤ p ∧ n ≤ 1000 ∧
  ∀ H' l R, Ch K [] H H' → H l = none → H' l = some (.lst (ringV ws R)) → Ring S R → R.length ≤ 1000 → Q (.ref l) H'
theorem ringV_snoc (ws : List V) (R : List (Nat × Stp)) (q : Nat × Stp) : ringV ws (R ++ [q]) = ringV ws R ++ [ws.getD q.1 V.non] := by simp [ringV]
theorem fn_ring_behind (C : Cn w K mg base) : Fn P w K mg base CX0 1 "ring_behind" ["place", "came_by"] (spRingB K) := C.f_ring_behind fun fd F => by
  refine F.ok (CX := CX0) sc_ring_behind (fun vs H Q E h => ?_) (fun cdv A outer s H vs Q E hr h => ?_)
  · obtain ⟨e, cl, n, S, h, cb, p, j, ws, rfl, _⟩ := h
    rfl
  · obtain ⟨e, cl, n, S, h, cb, p, j, ws, rfl, hcl, rw_, o, c, hnp, hn, q⟩ := h
    obtain ⟨pl, hpl, m, m0, lp, mn⟩ := c.place o hnp rfl
    have ring := c.ring o m0 lp mn
    have d : it S cb n e ≠ none := by rw [hpl]; simp
    have dm : it S cb m pl ≠ none := by rw [lp]; simp
    have bd : ∀ i u, it S cb i pl = some u → i < m → u < n := by
      intro i u hu hi
      have d1 : it S cb (i + 1) pl ≠ none := it_le (by omega) dm
      rw [it_succ, hu, Option.bind_some] at d1
      cases q1 : nx S cb u with
      | none => exact (d1 q1).elim
      | some w1 =>
        obtain ⟨k, s, h1, h2, h3⟩ := nx_some q1
        obtain ⟨s', g1, g2, g3⟩ := c.cbok u k h1
        rw [← g2]
        exact (o s' (List.mem_of_getElem? g1)).2.1
    have mlen : m ≤ n := by
      have h1 := nodup_len n _ ring.nd fun x hx => by
        obtain ⟨q1, hq1, rfl⟩ := List.mem_map.mp hx
        exact (o q1.2 (List.mem_of_getElem? (ring.mem q1 hq1))).2.1
      rw [List.length_map, pth_len dm] at h1
      exact h1
    -- what stands at a place that has one behind it
    have at_ : ∀ i u, it S cb i e = some u → i < n → ∃ k s a, cb u = some k ∧ S[k]? = some s ∧ it S cb (i + 1) e = some s.st ∧ u < n ∧ ws.getD k V.non = .ref a ∧ SqT K H a [.int (s.st : Nat), .int (s.en : Nat), .int s.ri, .int (s.lk : Nat), .int s.ch] := by
      intro i u hu hi
      have d1 : it S cb (i + 1) e ≠ none := it_le (by omega) d
      rw [it_succ, hu, Option.bind_some] at d1
      cases q1 : nx S cb u with
      | none => exact (d1 q1).elim
      | some w1 =>
        obtain ⟨k, s, h1, h2, h3⟩ := nx_some q1
        obtain ⟨a, b1, _, b2⟩ := step_val rw_ h2
        obtain ⟨s', g1, g2, g3⟩ := c.cbok u k h1
        rw [h2] at g1
        cases g1
        exact ⟨k, s, a, h1, h2, by rw [it_succ, hu, Option.bind_some, q1, h3], by rw [← g2]; exact (o s (List.mem_of_getElem? h2)).2.1, b1, b2⟩
    have at2 : ∀ i u, it S cb i pl = some u → i < m → ∃ k s a, cb u = some k ∧ S[k]? = some s ∧ it S cb (i + 1) pl = some s.st ∧ u < n ∧ ws.getD k V.non = .ref a ∧ SqT K H a [.int (s.st : Nat), .int (s.en : Nat), .int s.ri, .int (s.lk : Nat), .int s.ch] := by
      intro i u hu hi
      have d1 : it S cb (i + 1) pl ≠ none := it_le (by omega) dm
      rw [it_succ, hu, Option.bind_some] at d1
      cases q1 : nx S cb u with
      | none => exact (d1 q1).elim
      | some w1 =>
        obtain ⟨k, s, h1, h2, h3⟩ := nx_some q1
        obtain ⟨a, b1, _, b2⟩ := step_val rw_ h2
        exact ⟨k, s, a, h1, h2, by rw [it_succ, hu, Option.bind_some, q1, h3], bd i u hu hi, b1, b2⟩
    refine ⟨_, PSs.nox (pss_cons (ps_for PassesOwn.never rfl (pi_range1 (by rfl) (C.m_range) (pa_cons (pe_callB call_len_seq (by rfl) (C.m_len) PySem.boot_len (pa_cons (pv 1) pa_nil)) pa_nil)) (pg_name (i := 2) sc_ring_behind.nd rfl (Or.inl rfl)) (pss_one (ps_set (i := 0) sc_ring_behind.nd rfl (Or.inl rfl) (pe_ix ix_tup (pe_ix ix_list (pv 1) (pv 0) (fun _ _ => rfl)) pe_int (fun _ _ => rfl)))))
      (pss_cons (ps_set (i := 3) sc_ring_behind.nd rfl (Or.inl rfl) (pe_lstC (pa_cons (pe_ix ix_list (pv 1) (pv 0) (fun _ _ => rfl)) pa_nil)))
      (pss_cons (ps_while PassesOwn.never (pt_cmpR op_ne (pe_ix ix_tup (pe_ix ix_list (pv 3) (pe_un un_neg pe_int) (fun _ _ => rfl)) pe_int (fun _ _ => rfl)) (pv 0) (nomark _)) (pss_one (ps_expr (pe_bm PySem.F.plainAttrs_list PySem.F.slot_list_append PySem.F.type_list_append mt_append (pv 3) (pa_cons (pe_ix ix_list (pv 1) (pe_ix ix_tup (pe_ix ix_list (pv 3) (pe_un un_neg pe_int) (fun _ _ => rfl)) pe_int (fun _ _ => rfl)) (fun _ _ => rfl)) pa_nil)))))
      (pss_one (ps_ret (pv 3)))))), ?_⟩
    walk_at "go"
    rw [cvs_len]
    refine ⟨by omega, by omega, ?_⟩
    refine for_rng (fun i σ' H' => ∃ u x2, it S cb i e = some u ∧ σ' = [some (.int (u : Nat)), some (.ref cl), x2, none] ∧ H' = H) ⟨e, none, rfl, rfl, rfl⟩ ?_ ?_
    · rintro i _ H1 hi ⟨u, x2, hu, rfl, e1⟩
      rw [e1]
      have hi' : i < n := by simpa using hi
      obtain ⟨k, s, a, h1, h2, h3, h4, h5, h6⟩ := at_ i u hu hi'
      have g1 := atI_nat (cvs_at h4 h1 (ws := ws))
      rw [h5] at g1
      walk_at "g"
      exact ⟨s.st, _, h3, rfl, rfl⟩
    · rintro _ H1 ⟨u, x2, hu, rfl, e1⟩
      rw [e1]
      rw [Int.toNat_natCast, hpl] at hu
      cases hu
      obtain ⟨k0, s0, a0, h1, h2, h3, h4, h5, h6⟩ := at2 0 pl rfl m0
      have g1 := atI_nat (cvs_at h4 h1 (ws := ws))
      rw [h5] at g1
      walk_at "g"
      refine ⟨szle (by simp), fun l H2 n2 e2 c2 => ?_⟩
      walk_at "g"
      refine g_while ?_
      have c2' := c2
      refine ⟨fun t σ' H' => ∃ k R1 q1, t = m - k ∧ 1 ≤ k ∧ k ≤ m ∧ pth S cb k pl = R1 ++ [q1] ∧ σ' = [some (.int (pl : Nat)), some (.ref cl), x2, some (.ref l)] ∧ Ch K [] H H' ∧ H' l = some (.lst (ringV ws (R1 ++ [q1]))) ∧ it S cb k pl = some q1.2.st ∧ S[q1.1]? = some q1.2, ⟨m - 1, 1, [], (k0, s0), rfl, Nat.le_refl _, m0, ?_, rfl, c2, ?_, h3, h2⟩, ?_⟩
      · simp [pth, h1, h2]
      · rw [e2]
        simp [ringV, ← h5]
      · rintro t _ H3 ⟨k, R1, q1, rfl, k1, km, ep, rfl, c3, e3, ek, es⟩
        obtain ⟨a1, b1, b2, b3⟩ := step_val (rw_.kt (K := K) c3.kt) es
        rw [ringV_snoc] at e3
        have g2 : atI (ringV ws R1 ++ [ws.getD q1.1 V.non]) (-1) = some (.ref a1) := by rw [atI_last, b1]
        have hcl3 := c3.sqL hcl (by simp)
        have hR : R1.length + 1 ≤ m := by
          have := pth_len (S := S) (cb := cb) (m := k) (v := pl) (it_le km dm)
          rw [ep, List.length_append] at this
          simp at this
          omega
        walk_at "g"
        by_cases hst : q1.2.st = pl
        · refine tkF (by simp [hst]) ?_
          walk_at "g"
          have hkm : k = m := by
            apply Classical.byContradiction
            intro hne
            exact mn k (by omega) (by omega) (by rw [ek, hst])
          refine q _ _ (R1 ++ [q1]) c3 n2 (by rw [ringV_snoc]; exact e3) ?_ (by rw [List.length_append]; simp; omega)
          rw [← ep, hkm]
          exact ring
        · refine tkT (by simp; omega) ?_
          have hkm : k < m := by
            apply Classical.byContradiction
            intro hne
            have : k = m := by omega
            rw [this, lp] at ek
            cases ek
            exact hst rfl
          obtain ⟨k2, s2, a2, f1, f2, f3, f4, f5, f6⟩ := at2 k _ ek hkm
          have g3 := atI_nat (cvs_at f4 f1 (ws := ws))
          rw [f5] at g3
          have hz : (ringV ws R1 ++ [ws.getD q1.1 V.non]).length < sizeLine := by rw [sizeLine_eq, List.length_append]; simp [ringV]; omega
          refine ⟨fun σ' H' => ∃ k' R1 q1, k' = k + 1 ∧ pth S cb k' pl = R1 ++ [q1] ∧ σ' = [some (.int (pl : Nat)), some (.ref cl), x2, some (.ref l)] ∧ Ch K [] H H' ∧ H' l = some (.lst (ringV ws (R1 ++ [q1]))) ∧ it S cb k' pl = some q1.2.st ∧ S[q1.1]? = some q1.2, ?_, ?_⟩
          · rintro σ' H' ⟨k', R', q', rfl, w1, w2, w3, w4, w5, w6⟩
            exact ⟨m - (k + 1), by omega, k + 1, R', q', rfl, by omega, by omega, w1, w2, w3, w4, w5, w6⟩
          · walk_at "g"
            refine ⟨k + 1, R1 ++ [q1], (k2, s2), rfl, ?_, rfl, Ch.wrN c3 n2 e3 rfl, ?_, f3, f2⟩
            · rw [pth_snoc ek f1 f2, ep]
            · rw [upd_same, ringV_snoc, ringV_snoc, f5]
end
end K3
end

section
set_option maxRecDepth 100000
set_option maxHeartbeats 1000000
open Bq L2
/-- one step of a reading; what is left are side goals and places to think -/
local macro_rules | `(tactic| walk_at "g1") => `(tactic| first
  | with_reducible refine' g_seq ?_ | with_reducible refine' g_asg ?_ | with_reducible refine' g_drop ?_ | with_reducible refine' g_ret ?_ | with_reducible refine' g_ifS ?_ | with_reducible refine' g_asgG ?_
  | ((with_reducible refine' g_var ?hv ?_); (case hv => rfl))
  | with_reducible refine' g_c ?_ | with_reducible refine' g_op ?_ | with_reducible refine' g_un ?_ | with_reducible refine' g_I0 ?_ | with_reducible refine' g_U ?_
  | with_reducible refine' g_test ?_ | with_reducible refine' g_tB ?_ | with_reducible refine Exists.intro _ (And.intro rfl ?_) 
  | ((with_reducible refine' g_andP ?ha ?hb ?_); (case ha => intro R q; walk_at "g"; exact q); (case hb => intro R q; walk_at "g"; exact q))
  | ((with_reducible refine' g_orP ?ha ?hb ?_); (case ha => intro R q; walk_at "g"; exact q); (case hb => intro R q; walk_at "g"; exact q))
  | with_reducible refine' g_and ?_ | with_reducible refine' g_or ?_ | with_reducible refine' g_not ?_
  | with_reducible refine' g_andV ?_ | with_reducible refine' g_orV ?_ | with_reducible refine' g_notV ?_ | with_reducible refine' g_if ?_ | with_reducible refine' g_nil ?_ | with_reducible refine' g_cons ?_
  | with_reducible refine' g_tup ?_ | with_reducible refine' g_lst ?_ | with_reducible refine' g_CB ?_ | with_reducible refine' g_Fn ?_ | with_reducible refine' g_next ?_ | with_reducible refine' g_retN ?_
  | with_reducible refine' g_name ?_ | with_reducible refine' g_sub ?_
  | ((with_reducible refine' g_ixL ?hs ?he ?_); (case hs => walk_at "lk"); (case he => walk_at "at"))
  | ((with_reducible refine' g_ixT ?hs ?he ?_); (case hs => walk_at "lk"); (case he => walk_at "at"))
  | ((with_reducible refine' g_setL ?hs ?he ?_); (case hs => walk_at "hp"); (case he => rfl))
  | ((with_reducible refine' g_app ?hs ?hz ?_); (case hs => walk_at "hp"); (case hz => walk_at "sz"))
  | ((with_reducible refine' ⟨_, _, rfl, Or.inl ?hs, ?_⟩); (case hs => walk_at "lk"))
  | ((with_reducible refine' ⟨_, _, rfl, Or.inr ?hs, ?_⟩); (case hs => walk_at "lk"))
  | with_reducible refine' g_BM ?_ | with_reducible refine' g_BM0 ?_ | ((with_reducible refine' g_tyL ?hs ?_); (case hs => walk_at "lk"))
  | with_reducible refine' g_sl ?_ | with_reducible refine' g_noPart ?_ | with_reducible refine' g_part ?_
  | ((with_reducible refine' g_inT ?hs ?fx ?fs ?_); (case hs => walk_at "lk"); (case fx => rfl); (case fs => rfl))
  | with_reducible refine' g_pair ?_ | with_reducible refine' g_pair0 ?_ | with_reducible refine' g_disp ?_
  | with_reducible refine' g_for ?_ | with_reducible refine' g_tupC ?_ | with_reducible refine' g_lstC ?_ | ((with_reducible refine' g_lens ?_)) | with_reducible refine' g_dg ?_ | with_reducible refine' g_lc ?_ | with_reducible refine' g_rng1 ?_ | with_reducible refine' g_ilist ?_ | with_reducible refine' g_itup ?_
  | ((with_reducible refine' ⟨_, _, rfl, ?hd, ?_⟩); (case hd => walk_at "dg"))
  | ((with_reducible refine' g_eqNil ?hs ?hz ?_); (case hs => walk_at "lk"); (case hz => walk_at "lk"))
  | ((with_reducible refine' g_neNil ?hs ?hz ?_); (case hs => walk_at "lk"); (case hz => walk_at "lk"))
  | with_reducible refine Or.inl ⟨_, rfl, ?_⟩
  | with_reducible refine Or.inr ⟨_, rfl, ?_⟩
  | ((with_reducible refine' g_eq ?hs ?_); (case hs => rfl))
  | ((with_reducible refine' g_ne ?hs ?_); (case hs => rfl))
  | ((with_reducible refine' g_I ?hc ?_); (case hc => walk_at "ar")))
/-- arithmetic's side conditions -/
local macro_rules | `(tactic| walk_at "ar") => `(tactic| (first
  | (show (0 : Int) < _; first | omega | decide) | (show (0 : Int) < _ ∧ _; constructor <;> omega) | (show ¬ (_ : Int) = _; omega) | (show (_ : Int) ≠ _ ∧ _; constructor <;> omega)
  | (show (-(2 ^ 64) < _ ∧ _) ∨ _; (first | (left; constructor <;> omega) | (right; constructor <;> omega))) | (show (0 : Int) ≤ _ ∧ _ ∧ _; refine ⟨by omega, by omega, by decide⟩)))
/-- what stands at an index -/
local macro_rules | `(tactic| walk_at "at") => `(tactic| first | rfl | assumption)
/-- what stands at an address -/
local macro_rules | `(tactic| walk_at "hp") => `(tactic| first | assumption | exact upd_same | ((refine' Eq.trans (upd_ne ?hn) ?hm); (case hm => walk_at "hp"); (case hn => walk_at "ne")))
/-- two places are two -/
local macro_rules | `(tactic| walk_at "ne") => `(tactic| first
  | assumption | exact Ne.symm (by assumption)
  | ((refine' ne_of_none ?ha ?hb); (case hb => assumption); (case ha => walk_at "hp")) | ((refine' Ne.symm (ne_of_none ?ha ?hb)); (case hb => assumption); (case ha => walk_at "hp")))
/-- what a dict tells -/
local macro_rules | `(tactic| walk_at "dg") => `(tactic| first | assumption)
/-- a length -/
local macro_rules | `(tactic| walk_at "sz") => `(tactic| first | (show _ ≤ sizeLine; decide) | (show _ < sizeLine; decide) | assumption | exact szlt (by simp) | exact szle (by simp))
/-- a list or tuple that stands -/
local macro_rules | `(tactic| walk_at "lk") => `(tactic| first | assumption | exact SqL.of (by assumption) | exact SqT.of (by assumption) | exact SqL.of upd_same | exact SqT.of upd_same | (refine' FzL.sq ?hm; (case hm => walk_at "fz")))
/-- a list that nobody writes -/
local macro_rules | `(tactic| walk_at "fz") => `(tactic| first | assumption | ((refine' FzL.uw ?hm ?hx); (case hx => walk_at "hp"); (case hm => walk_at "fz")) | ((refine' FzL.nw ?hm ?hx); (case hx => assumption); (case hm => walk_at "fz")))
/-- as far as it goes by itself -/
local macro_rules | `(tactic| walk_at "g") => `(tactic| repeat walk_at "g1")
/-- the body's reading, its places in short -/
local macro_rules | `(tactic| walk_at "go") => `(tactic| ((try dsimp only [cxOf, Cx.nox, Cx.wish]); walk_at "g"))
namespace K3
open PySem PySem.Spec PyProof.Rows L2 Bq
section
variable {P : Program} {w : World} {K : PySem.W.Frag} {mg : Str → Option Value} {base : Heap}
/-- further steps: dicts written, tuples taken apart -/
local macro_rules | `(tactic| walk_at "g1") => `(tactic| first
  | with_reducible refine' g_sdput ?_
  | ((with_reducible refine' g_gtup ?hs ?hl ?_); (case hs => walk_at "lk"); (case hl => rfl))
  | with_reducible refine' g_gcons ?_
  | with_reducible refine' g_gnil ?_
  | with_reducible refine' And.intro (Eq.refl V.non) ?_
  | with_reducible refine' g_isN ?_
  | ((with_reducible refine' g_chainR ?ha ?hb ?hc ?_); (case ha => intro R q; walk_at "g"; exact q); (case hb => intro R q; walk_at "g"; exact q); (case hc => intro R q; walk_at "g"; exact q))
  | with_reducible refine' g_notN ?_)
/-- what the law's dict tells -/
local macro_rules | `(tactic| walk_at "dg") => `(tactic| first
  | assumption
  | exact LH.gfuns (by assumption)
  | exact LH.gsaid (by assumption)
  | exact LH.gcells (by assumption)
  | exact LH.gfuel (by assumption)
  | exact LH.gend (by assumption)
  | exact LH.gcalls (by assumption)
  | exact LH.gnames (by assumption)
  | exact LH.gwaits (by assumption)
  | exact LH.gworth (by assumption)
  | exact LH.glook (by assumption))
/-- a test that fails, that holds, by itself -/
local macro_rules | `(tactic| walk_at "no") => `(tactic| ((refine tkF rfl ?_); walk_at "g"))
local macro_rules | `(tactic| walk_at "yes") => `(tactic| ((refine tkT rfl ?_); walk_at "g"))
local macro_rules | `(tactic| walk_at "g1") => `(tactic| first
  | with_reducible refine' g_catS ?_
  | with_reducible refine' g_mulS ?_
  | with_reducible refine' g_rev ?_)
/-- numbers in lists, more -/
local macro_rules | `(tactic| walk_at "g1") => `(tactic| first
  | with_reducible refine' g_augS ?_
  | with_reducible refine' g_ipI ?_
  | with_reducible refine' g_revL ?_
  | ((with_reducible refine' g_getL ?hs ?he ?_); (case hs => walk_at "lk"); (case he => walk_at "at"))
  | with_reducible refine' g_enum ?_)
open Fl
def rsV : Option Nat → V
  | none => .non
  | some e => .int (e : Nat)
theorem flat_rep (n : Nat) (x : V) : (List.replicate n [x]).flatten = List.replicate n x := by
  induction n with
  | zero => rfl
  | succ n ih => rw [List.replicate_succ, List.flatten_cons, ih, List.replicate_succ]; rfl
theorem hv0 (n : Nat) : List.replicate n (V.int 0) = hv n (fun _ => 0) := by
  unfold hv
  rw [List.map_const', List.length_range]
theorem cvs0 (n : Nat) (ws : List V) : List.replicate n V.non = cvs n (fun _ => none) ws := by
  unfold cvs
  rw [List.map_const', List.length_range]
theorem own0 {H : Hp} : Own K H H [] := ⟨Ch.refl, by simp, by simp, by simp⟩
theorem own2 {H0 H : Hp} {a b : Addr} {x y : HO} (o : Own K H0 H [(a, x), (b, y)]) : Own K H0 H [(b, y), (a, x)] := o.perm (.swap ..)
def spClimbed (K : PySem.W.Frag) : Sp := fun vs H Q _ => ∃ (n : Nat) (a : Addr) (S : List Stp) (ws : List V), vs = [.int (n : Nat), .ref a] ∧ SqL K H a ws ∧ Reps K H ws (S.map stpT) ∧ Okst n S ∧ 1 ≤ n ∧ n ≤ 1000 ∧
  ∀ H' p hl rl h, Ch K [] H H' → H' p = some (.tup [.ref hl, .ref rl]) → H hl = none → H rl = none → H' hl = some (.lst (hv n h)) →
    ((∃ pp cb, CI n S pp S.length h cb none) ∧ H' rl = some (.lst []) ∨ ∃ R, Ring S R ∧ R.length ≤ 1000 ∧ H' rl = some (.lst (ringV ws R))) → Q (.ref p) H'
theorem fn_climbed (C : Cn w K mg base) : Fn P w K mg base CX0 2 "climbed" ["many", "steps"] (spClimbed K) := C.f_climbed fun fd F => by
  have F_ring_behind : Fn P w K mg base CX0 1 "ring_behind" ["place", "came_by"] (spRingB K) := fn_ring_behind C
  refine F.ok (CX := CX0) sc_climbed (fun vs H Q E h => ?_) (fun cdv A outer s H vs Q E hr h => ?_)
  · obtain ⟨n, a, S, ws, rfl, _⟩ := h
    rfl
  · obtain ⟨n, a, S, ws, rfl, ha, rw_, ok, n1, n2, q⟩ := h
    refine ⟨_, PSs.nox (pss_cons (ps_set (i := 2) sc_climbed.nd rfl (Or.inl rfl) (pe_op op_repL (pe_lstC (pa_cons pe_int pa_nil)) (pv 0)))
      (pss_cons (ps_set (i := 3) sc_climbed.nd rfl (Or.inl rfl) (pe_op op_repL (pe_lstC (pa_cons pe_non pa_nil)) (pv 0)))
      (pss_cons (ps_for PassesOwn.never rfl (pi_range1 (by rfl) (C.m_range) (pa_cons (pv 0) pa_nil)) (pg_name (i := 4) sc_climbed.nd rfl (Or.inl rfl)) (pss_cons (ps_set (i := 5) sc_climbed.nd rfl (Or.inl rfl) pe_non)
      (pss_cons (ps_for PassesOwn.never rfl (pi_list (pv 1)) (pg_name (i := 6) sc_climbed.nd rfl (Or.inl rfl)) (pss_cons (ps_asg (pv 6) (pg_tup rfl (pgs_cons (pg_name (i := 7) sc_climbed.nd rfl (Or.inl rfl)) (pgs_cons (pg_name (i := 8) sc_climbed.nd rfl (Or.inl rfl)) (pgs_cons (pg_name (i := 9) sc_climbed.nd rfl (Or.inl rfl)) (pgs_cons (pg_name (i := 4) sc_climbed.nd rfl (Or.inl rfl)) (pgs_cons (pg_name (i := 4) sc_climbed.nd rfl (Or.inl rfl)) pgs_nil)))))))
      (pss_one (ps_if (pt_cmpR op_gt (pe_op op_add (pe_ix ix_list (pv 2) (pv 7) (fun _ _ => rfl)) (pv 9)) (pe_ix ix_list (pv 2) (pv 8) (fun _ _ => rfl)) (nomark _)) (pss_cons (ps_asg (pe_op op_add (pe_ix ix_list (pv 2) (pv 7) (fun _ _ => rfl)) (pv 9)) (pg_sub (pv 2) (pv 8) set_list))
      (pss_cons (ps_asg (pv 6) (pg_sub (pv 3) (pv 8) set_list))
      (pss_one (ps_set (i := 5) sc_climbed.nd rfl (Or.inl rfl) (pv 8))))) pss_nil))))
      (pss_one (ps_if (pt_cmpR op_isN (pv 5) pe_non (nomark _)) (pss_one (ps_ret (pe_tupC (pa_cons (pv 2) (pa_cons (pe_lstC pa_nil) pa_nil))))) pss_nil)))))
      (pss_one (ps_ret (pe_tupC (pa_cons (pv 2) (pa_cons (pe_fn F_ring_behind (rmm hr) (by rfl) pass0 (pa_cons (pv 5) (pa_cons (pv 3) pa_nil))) pa_nil)))))))), ?_⟩
    have lw : ws.length = S.length := by rw [rw_.len, List.length_map]
    walk_at "go"
    refine ⟨szle (by simp), fun l0 H0 m0 e0 c0 => ?_⟩
    walk_at "g"
    refine ⟨l0, n, _, rfl, rfl, e0, by omega, by omega, by rw [sizeLine_eq]; simp; omega, fun hl H1 m1 e1 c1 => ?_⟩
    rw [Int.toNat_natCast, flat_rep, hv0] at e1
    walk_at "g"
    refine ⟨szle (by simp), fun l2 H2 m2 e2 c2 => ?_⟩
    walk_at "g"
    refine ⟨l2, n, _, rfl, rfl, e2, by omega, by omega, by rw [sizeLine_eq]; simp; omega, fun cl H3 m3 e3 c3 => ?_⟩
    rw [Int.toNat_natCast, flat_rep, cvs0 n ws] at e3
    have o3 : Own K H H3 [(cl, .lst (cvs n (fun _ => none) ws)), (hl, .lst (hv n fun _ => 0))] := by
      have o0 : Own K H H0 [] := own0.ch c0
      exact ((o0.new m1 c1 e1).ch c2).new m3 c3 e3
    walk_at "g"
    refine ⟨by omega, by omega, ?_⟩
    rw [Int.toNat_natCast]
    refine for_rng (fun i σ' H' => ∃ x4 x5 x6 x7 x8 x9 h cb, σ' = [some (.int (n : Nat)), some (.ref a), some (.ref hl), some (.ref cl), x4, x5, x6, x7, x8, x9] ∧ Own K H H' [(cl, .lst (cvs n cb ws)), (hl, .lst (hv n h))] ∧ ((i = 0 ∧ CI n S 1 0 h cb none) ∨ (0 < i ∧ ∃ e, CI n S i S.length h cb (some e) ∧ x5 = some (.int (e : Nat))))) ⟨none, none, none, none, none, none, _, _, rfl, o3, .inl ⟨rfl, CI.start⟩⟩ ?_ ?_
    · rintro i _ H4 hi ⟨x4, x5, x6, x7, x8, x9, h, cb, rfl, o4, ci⟩
      have ci0 : CI n S (i + 1) 0 h cb none := by
        rcases ci with ⟨rfl, c⟩ | ⟨_, e, c, _⟩
        · exact c
        · exact c.pass
      have ha4 := o4.c.sqL ha (by simp)
      walk_at "g"
      refine ⟨⟨_, ha4⟩, for_it (walk_list (xs := ws)) (fun j σ' H' => ∃ x4 x6 x7 x8 x9 h cb rs, σ' = [some (.int (n : Nat)), some (.ref a), some (.ref hl), some (.ref cl), x4, some (rsV rs), x6, x7, x8, x9] ∧ Own K H H' [(cl, .lst (cvs n cb ws)), (hl, .lst (hv n h))] ∧ CI n S (i + 1) j h cb rs) ⟨_, _, _, _, _, _, _, none, rfl, o4, ci0⟩ (fun j σ H' _ ⟨_, _, _, _, _, _, _, _, _, o, _⟩ => o.c.sqL ha (by simp)) ?_ ?_⟩
      · rintro j x σ _ H5 hj ⟨x4, x6, x7, x8, x9, h, cb, rs, rfl, o5, c5⟩ ⟨rfl, hx⟩
        have hjS : j < S.length := by omega
        have hs := List.getElem?_eq_getElem hjS
        generalize S[j] = st at hs
        obtain ⟨sa, b1, b2, b3⟩ := step_val (rw_.kt o5.c.kt) hs
        rw [hx] at b2
        cases b2
        have ost := ok st (List.mem_of_getElem? hs)
        have ehl : H5 hl = some (.lst (hv n h)) := o5.h (hl, _) (by simp)
        have ehl' : SqL K H5 hl (hv n h) := SqL.of ehl
        have gst := atI_nat (hv_at (h := h) ost.1)
        have gen := atI_nat (hv_at (h := h) ost.2.1)
        walk_at "g"
        refine iteB (fun hr => ?_) (fun hr => ?_)
        · have hr' : h st.en < h st.st + st.ri := by simpa using hr
          walk_at "g"
          have ecl : H5 cl = some (.lst (cvs n cb ws)) := o5.h (cl, .lst (cvs n cb ws)) (by simp)
          have hlen : st.en < (hv n h).length := by rw [hv_len]; exact ost.2.1
          refine setL_nat (j := st.en) ehl hlen ?_
          rw [hv_set]
          have o6 := (own2 o5).wr (l1 := []) (o := .lst (hv n (fupd h st.en (h st.st + st.ri)))) rfl
          generalize upd H5 hl (.lst (hv n (fupd h st.en (h st.st + st.ri)))) = H6 at o6 ⊢
          have ecl6 : H6 cl = some (.lst (cvs n cb ws)) := o6.h (cl, .lst (cvs n cb ws)) (by simp)
          walk_at "g"
          have hlen2 : st.en < (cvs n cb ws).length := by rw [cvs_len]; exact ost.2.1
          refine setL_nat (j := st.en) ecl6 hlen2 ?_
          rw [← b1, cvs_set]
          have o7 := (own2 (a := hl) (b := cl) o6).wr (l1 := []) (o := .lst (cvs n (fupd cb st.en (some j)) ws)) rfl
          generalize upd H6 cl (.lst (cvs n (fupd cb st.en (some j)) ws)) = H7 at o7 ⊢
          walk_at "g"
          exact ⟨_, _, _, _, _, _, _, some st.en, rfl, o7, c5.rise ok (by omega) hs hr'⟩
        · have hr' : h st.st + st.ri ≤ h st.en := by simpa using hr
          walk_at "g"
          exact ⟨_, _, _, _, _, _, _, rs, rfl, o5, c5.stay hs hr'⟩
      · rintro σ H5 ⟨x4, x6, x7, x8, x9, h, cb, rs, rfl, o5, c5⟩
        walk_at "g"
        rw [lw] at c5
        cases rs with
        | none =>
          walk_at "yes"
          refine ⟨szle (by simp), fun rl H6 n6 e6 c6 => ?_⟩
          walk_at "g"
          refine ⟨szle (by simp), fun p H7 n7 e7 c7 => ?_⟩
          have c67 := c6.trans c7
          exact q H7 p hl rl h (o5.c.trans c67) e7 (o5.f (hl, .lst (hv n h)) (by simp)) (o5.c.free n6 (by simp)) (c67.up _ _ (o5.h (hl, .lst (hv n h)) (by simp)) (by simp)) (.inl ⟨⟨_, _, c5⟩, c7.up _ _ e6 (by simp)⟩)
        | some e =>
          walk_at "no"
          exact ⟨_, _, _, _, _, _, _, _, rfl, o5, .inr ⟨by omega, e, c5, rfl⟩⟩
    · rintro _ H4 ⟨x4, x5, x6, x7, x8, x9, h, cb, rfl, o4, ci⟩
      rcases ci with ⟨h0, _⟩ | ⟨_, e, c4, rfl⟩
      · omega
      · have hcl4 : SqL K H4 cl (cvs n cb ws) := SqL.of (o4.h (cl, .lst (cvs n cb ws)) (by simp))
        walk_at "g"
        refine ⟨e, cl, n, S, h, cb, n, S.length, ws, rfl, hcl4, rw_.kt o4.c.kt, ok, c4, Nat.le_refl _, n2, fun H5 l R c5 n5 e5 ring lR => ?_⟩
        walk_at "g"
        refine ⟨szle (by simp), fun p H6 n6 e6 c6 => ?_⟩
        have c56 := c5.trans c6
        exact q H6 p hl l h (o4.c.trans c56) e6 (o4.f (hl, .lst (hv n h)) (by simp)) (o4.c.free n5 (by simp)) (c56.up _ _ (o4.h (hl, .lst (hv n h)) (by simp)) (by simp)) (.inr ⟨R, ring, lR, c6.up _ _ e5 (by simp)⟩)
end
end K3
end

section
set_option maxRecDepth 100000
set_option maxHeartbeats 1000000
open Bq L2
/-- one step of a reading; what is left are side goals and places to think -/
local macro_rules | `(tactic| walk_at "g1") => `(tactic| first
  | with_reducible refine' g_seq ?_ | with_reducible refine' g_asg ?_ | with_reducible refine' g_drop ?_ | with_reducible refine' g_ret ?_ | with_reducible refine' g_ifS ?_ | with_reducible refine' g_asgG ?_
  | ((with_reducible refine' g_var ?hv ?_); (case hv => rfl))
  | with_reducible refine' g_c ?_ | with_reducible refine' g_op ?_ | with_reducible refine' g_un ?_ | with_reducible refine' g_I0 ?_ | with_reducible refine' g_U ?_
  | with_reducible refine' g_test ?_ | with_reducible refine' g_tB ?_ | with_reducible refine Exists.intro _ (And.intro rfl ?_) 
  | ((with_reducible refine' g_andP ?ha ?hb ?_); (case ha => intro R q; walk_at "g"; exact q); (case hb => intro R q; walk_at "g"; exact q))
  | ((with_reducible refine' g_orP ?ha ?hb ?_); (case ha => intro R q; walk_at "g"; exact q); (case hb => intro R q; walk_at "g"; exact q))
  | with_reducible refine' g_and ?_ | with_reducible refine' g_or ?_ | with_reducible refine' g_not ?_
  | with_reducible refine' g_andV ?_ | with_reducible refine' g_orV ?_ | with_reducible refine' g_notV ?_ | with_reducible refine' g_if ?_ | with_reducible refine' g_nil ?_ | with_reducible refine' g_cons ?_
  | with_reducible refine' g_tup ?_ | with_reducible refine' g_lst ?_ | with_reducible refine' g_CB ?_ | with_reducible refine' g_Fn ?_ | with_reducible refine' g_next ?_ | with_reducible refine' g_retN ?_
  | with_reducible refine' g_name ?_ | with_reducible refine' g_sub ?_
  | ((with_reducible refine' g_ixL ?hs ?he ?_); (case hs => walk_at "lk"); (case he => walk_at "at"))
  | ((with_reducible refine' g_ixT ?hs ?he ?_); (case hs => walk_at "lk"); (case he => walk_at "at"))
  | ((with_reducible refine' g_setL ?hs ?he ?_); (case hs => walk_at "hp"); (case he => rfl))
  | ((with_reducible refine' g_app ?hs ?hz ?_); (case hs => walk_at "hp"); (case hz => walk_at "sz"))
  | ((with_reducible refine' ⟨_, _, rfl, Or.inl ?hs, ?_⟩); (case hs => walk_at "lk"))
  | ((with_reducible refine' ⟨_, _, rfl, Or.inr ?hs, ?_⟩); (case hs => walk_at "lk"))
  | with_reducible refine' g_BM ?_ | with_reducible refine' g_BM0 ?_ | ((with_reducible refine' g_tyL ?hs ?_); (case hs => walk_at "lk"))
  | with_reducible refine' g_sl ?_ | with_reducible refine' g_noPart ?_ | with_reducible refine' g_part ?_
  | ((with_reducible refine' g_inT ?hs ?fx ?fs ?_); (case hs => walk_at "lk"); (case fx => rfl); (case fs => rfl))
  | with_reducible refine' g_pair ?_ | with_reducible refine' g_pair0 ?_ | with_reducible refine' g_disp ?_
  | with_reducible refine' g_for ?_ | with_reducible refine' g_tupC ?_ | with_reducible refine' g_lstC ?_ | ((with_reducible refine' g_lens ?_)) | with_reducible refine' g_dg ?_ | with_reducible refine' g_lc ?_ | with_reducible refine' g_rng1 ?_ | with_reducible refine' g_ilist ?_ | with_reducible refine' g_itup ?_
  | ((with_reducible refine' ⟨_, _, rfl, ?hd, ?_⟩); (case hd => walk_at "dg"))
  | ((with_reducible refine' g_eqNil ?hs ?hz ?_); (case hs => walk_at "lk"); (case hz => walk_at "lk"))
  | ((with_reducible refine' g_neNil ?hs ?hz ?_); (case hs => walk_at "lk"); (case hz => walk_at "lk"))
  | with_reducible refine Or.inl ⟨_, rfl, ?_⟩
  | with_reducible refine Or.inr ⟨_, rfl, ?_⟩
  | ((with_reducible refine' g_eq ?hs ?_); (case hs => rfl))
  | ((with_reducible refine' g_ne ?hs ?_); (case hs => rfl))
  | ((with_reducible refine' g_I ?hc ?_); (case hc => walk_at "ar")))
/-- arithmetic's side conditions -/
local macro_rules | `(tactic| walk_at "ar") => `(tactic| (first
  | (show (0 : Int) < _; first | omega | decide) | (show (0 : Int) < _ ∧ _; constructor <;> omega) | (show ¬ (_ : Int) = _; omega) | (show (_ : Int) ≠ _ ∧ _; constructor <;> omega)
  | (show (-(2 ^ 64) < _ ∧ _) ∨ _; (first | (left; constructor <;> omega) | (right; constructor <;> omega))) | (show (0 : Int) ≤ _ ∧ _ ∧ _; refine ⟨by omega, by omega, by decide⟩)))
/-- what stands at an index -/
local macro_rules | `(tactic| walk_at "at") => `(tactic| first | rfl | assumption)
/-- what stands at an address -/
local macro_rules | `(tactic| walk_at "hp") => `(tactic| first | assumption | exact upd_same | ((refine' Eq.trans (upd_ne ?hn) ?hm); (case hm => walk_at "hp"); (case hn => walk_at "ne")))
/-- two places are two -/
local macro_rules | `(tactic| walk_at "ne") => `(tactic| first
  | assumption | exact Ne.symm (by assumption)
  | ((refine' ne_of_none ?ha ?hb); (case hb => assumption); (case ha => walk_at "hp")) | ((refine' Ne.symm (ne_of_none ?ha ?hb)); (case hb => assumption); (case ha => walk_at "hp")))
/-- what a dict tells -/
local macro_rules | `(tactic| walk_at "dg") => `(tactic| first | assumption)
/-- a length -/
local macro_rules | `(tactic| walk_at "sz") => `(tactic| first | (show _ ≤ sizeLine; decide) | (show _ < sizeLine; decide) | assumption | exact szlt (by simp) | exact szle (by simp))
/-- a list or tuple that stands -/
local macro_rules | `(tactic| walk_at "lk") => `(tactic| first | assumption | exact SqL.of (by assumption) | exact SqT.of (by assumption) | exact SqL.of upd_same | exact SqT.of upd_same | (refine' FzL.sq ?hm; (case hm => walk_at "fz")))
/-- a list that nobody writes -/
local macro_rules | `(tactic| walk_at "fz") => `(tactic| first | assumption | ((refine' FzL.uw ?hm ?hx); (case hx => walk_at "hp"); (case hm => walk_at "fz")) | ((refine' FzL.nw ?hm ?hx); (case hx => assumption); (case hm => walk_at "fz")))
/-- as far as it goes by itself -/
local macro_rules | `(tactic| walk_at "g") => `(tactic| repeat walk_at "g1")
/-- the body's reading, its places in short -/
local macro_rules | `(tactic| walk_at "go") => `(tactic| ((try dsimp only [cxOf, Cx.nox, Cx.wish]); walk_at "g"))
namespace K3
open PySem PySem.Spec PyProof.Rows L2 Bq
section
variable {P : Program} {w : World} {K : PySem.W.Frag} {mg : Str → Option Value} {base : Heap}
/-- further steps: dicts written, tuples taken apart -/
local macro_rules | `(tactic| walk_at "g1") => `(tactic| first
  | with_reducible refine' g_sdput ?_
  | ((with_reducible refine' g_gtup ?hs ?hl ?_); (case hs => walk_at "lk"); (case hl => rfl))
  | with_reducible refine' g_gcons ?_
  | with_reducible refine' g_gnil ?_
  | with_reducible refine' And.intro (Eq.refl V.non) ?_
  | with_reducible refine' g_isN ?_
  | ((with_reducible refine' g_chainR ?ha ?hb ?hc ?_); (case ha => intro R q; walk_at "g"; exact q); (case hb => intro R q; walk_at "g"; exact q); (case hc => intro R q; walk_at "g"; exact q))
  | with_reducible refine' g_notN ?_)
/-- what the law's dict tells -/
local macro_rules | `(tactic| walk_at "dg") => `(tactic| first
  | assumption
  | exact LH.gfuns (by assumption)
  | exact LH.gsaid (by assumption)
  | exact LH.gcells (by assumption)
  | exact LH.gfuel (by assumption)
  | exact LH.gend (by assumption)
  | exact LH.gcalls (by assumption)
  | exact LH.gnames (by assumption)
  | exact LH.gwaits (by assumption)
  | exact LH.gworth (by assumption)
  | exact LH.glook (by assumption))
/-- a test that fails, that holds, by itself -/
local macro_rules | `(tactic| walk_at "no") => `(tactic| ((refine tkF rfl ?_); walk_at "g"))
local macro_rules | `(tactic| walk_at "yes") => `(tactic| ((refine tkT rfl ?_); walk_at "g"))
local macro_rules | `(tactic| walk_at "g1") => `(tactic| first
  | with_reducible refine' g_catS ?_
  | with_reducible refine' g_mulS ?_
  | with_reducible refine' g_rev ?_)
/-- numbers in lists, more -/
local macro_rules | `(tactic| walk_at "g1") => `(tactic| first
  | with_reducible refine' g_augS ?_
  | with_reducible refine' g_ipI ?_
  | with_reducible refine' g_revL ?_
  | ((with_reducible refine' g_getL ?hs ?he ?_); (case hs => walk_at "lk"); (case he => walk_at "at"))
  | with_reducible refine' g_enum ?_)
open Fl
theorem iv_at {fs : List Int} {k : Nat} (h : k < fs.length) : (iv fs)[k]? = some (.int (fs.getD k 0)) := by
  unfold iv
  rw [List.getElem?_map, List.getElem?_eq_getElem h, List.getD_eq_getElem?_getD, List.getElem?_eq_getElem h]
  rfl
theorem iv_set (fs : List Int) (k : Nat) (x : Int) : (iv fs).set k (.int x) = iv (fs.set k x) := by
  unfold iv
  rw [List.map_set]
def backs (R : List (Nat × Stp)) (fs : List Int) : List Int := (R.filter fun q => decide (q.2.ch < 0)).map fun q => fs.getD q.2.lk 0
theorem backs_snoc (R : List (Nat × Stp)) (q : Nat × Stp) (fs : List Int) : backs (R ++ [q]) fs = if q.2.ch < 0 then backs R fs ++ [fs.getD q.2.lk 0] else backs R fs := by
  unfold backs
  rw [List.filter_append, List.map_append]
  by_cases h : q.2.ch < 0 <;> simp [h]
theorem ring_val {H : Hp} {ws : List V} {S : List Stp} {R : List (Nat × Stp)} {i : Nat} {x : V} (r : Reps K H ws (S.map stpT)) (g : Ring S R) (h : (ringV ws R)[i]? = some x) : ∃ q a, R[i]? = some q ∧ q ∈ R ∧ x = .ref a ∧ SqT K H a [.int (q.2.st : Nat), .int (q.2.en : Nat), .int q.2.ri, .int (q.2.lk : Nat), .int q.2.ch] := by
  unfold ringV at h
  rw [List.getElem?_map] at h
  cases e : R[i]? with
  | none => rw [e] at h; cases h
  | some q =>
    rw [e] at h
    have hq := List.mem_of_getElem? e
    obtain ⟨a, b1, _, b2⟩ := step_val r (g.mem q hq)
    simp only [Option.map_some, Option.some.injEq] at h
    exact ⟨q, a, rfl, hq, by rw [← h, b1], b2⟩
def spSend (K : PySem.W.Frag) : Sp := fun vs H Q _ => ∃ (rl fl : Addr) (n : Nat) (L : List Lnk) (fs : List Int) (R : List (Nat × Stp)) (ws : List V), vs = [.ref rl, .ref fl] ∧ SqL K H rl (ringV ws R) ∧ Reps K H ws ((stepsOf L fs).map stpT) ∧ Ring (stepsOf L fs) R ∧ R.length ≤ 1000 ∧ H fl = some (.lst (iv fs)) ∧ rl ≠ fl ∧ Flow L fs ∧ Okln n L ∧
  ∀ H' fs', Ch K [fl] H H' → H' fl = some (.lst (iv fs')) → Flow L fs' → fr L fs < fr L fs' → Q .non H'
theorem fn_send_round (C : Cn w K mg base) : Fn P w K mg base CX0 1 "send_round" ["ring", "flows"] (spSend K) := C.f_send_round fun fd F => by
  refine F.ok (CX := CX0) sc_send_round (fun vs H Q E h => ?_) (fun cdv A outer s H vs Q E hr h => ?_)
  · obtain ⟨rl, fl, n, L, fs, R, ws, rfl, _⟩ := h
    rfl
  · obtain ⟨rl, fl, n, L, fs, R, ws, rfl, hrl, rw_, ring, lR, efl, nrf, fw, okl, q⟩ := h
    refine ⟨_, PSs.nox (pss_cons (ps_set (i := 5) sc_send_round.nd rfl (Or.inl rfl) (pe_callB (call_minL rfl) (by rfl) (C.m_min) (by decide +kernel) (pa_cons (pe_lc (own := [("_", 2), ("link", 3), ("change", 4)]) (g := (gTup K 5 (gCons (gName 2) (gCons (gName 2) (gCons (gName 2) (gCons (gName 3) (gCons (gName 4) gNil))))))) rfl sc_send_round.nd (pi_list (pv 0)) (blkOk_by (own := [("_", 2), ("link", 3), ("change", 4)]) (N := ["ring", "flows", "_", "link", "change", "amount"]) (sc := defScope s_send_round) (by decide +kernel)) (fun _ _ _ _ _ => (pg_tup rfl (pgs_cons (pg_name (i := 2) sc_send_round.nd rfl (Or.inl rfl) (Or.inr rfl)) (pgs_cons (pg_name (i := 2) sc_send_round.nd rfl (Or.inl rfl) (Or.inr rfl)) (pgs_cons (pg_name (i := 2) sc_send_round.nd rfl (Or.inl rfl) (Or.inr rfl)) (pgs_cons (pg_name (i := 3) sc_send_round.nd rfl (Or.inl rfl) (Or.inr rfl)) (pgs_cons (pg_name (i := 4) sc_send_round.nd rfl (Or.inl rfl) (Or.inr rfl)) pgs_nil))))))) (fun _ _ _ _ _ => pts_one (pt_cmpR op_lt (pv 4) pe_int (nomark _))) (fun _ _ _ _ _ => (pe_ix (ix_listK K) (pv 1) (pv 3) (fun _ _ => rfl)))) pa_nil)))
      (pss_one (ps_for PassesOwn.never rfl (pi_list (pv 0)) (pg_tup rfl (pgs_cons (pg_name (i := 2) sc_send_round.nd rfl (Or.inl rfl)) (pgs_cons (pg_name (i := 2) sc_send_round.nd rfl (Or.inl rfl)) (pgs_cons (pg_name (i := 2) sc_send_round.nd rfl (Or.inl rfl)) (pgs_cons (pg_name (i := 3) sc_send_round.nd rfl (Or.inl rfl)) (pgs_cons (pg_name (i := 4) sc_send_round.nd rfl (Or.inl rfl)) pgs_nil)))))) (pss_one (ps_augS (pv 1) (pv 3) get_list (pe_op op_mul (pv 4) (pv 5)) ip_add set_list))))), ?_⟩
    have lr : (ringV ws R).length = R.length := by simp [ringV]
    have lkb : ∀ q ∈ R, q.2.lk < fs.length := fun q hq => by
      obtain ⟨k, l, f, a1, a2, a3, _⟩ := step_mem (ring_mem ring q hq)
      have := (List.getElem?_eq_some_iff.mp a2).1
      omega
    walk_at "go"
    refine ⟨⟨_, hrl⟩, fun D nD => ?_⟩
    have nDf : D ≠ fl := fun e => by rw [e, efl] at nD; cases nD
    refine lc_it (walk_list (xs := ringV ws R)) (fun i H' => Ch K [] H H' ∧ H' D = some (.lst (iv (backs (R.take i) fs)))) ⟨Ch.new nD, by rw [upd_same, List.take_zero]; rfl⟩ (fun i H' _ p => p.1.sqL hrl (by simp)) ?_ ?_
    · rintro i x _ H2 hi ⟨c1, e1⟩ ⟨rfl, hx⟩
      obtain ⟨q1, a, hq, hm, rfl, ha⟩ := ring_val (rw_.kt c1.kt) ring hx
      have hfl2 : SqL K H2 fl (iv fs) := SqL.of (c1.up _ _ efl (by simp))
      refine g_gtup ha rfl ?_
      walk_at "g"
      refine ⟨rfl, ?_⟩
      walk_at "g"
      have hb := backs_snoc (R.take i) q1 fs
      rw [← take_snoc hq] at hb
      have hz : (iv (backs (R.take i) fs)).length < sizeLine := by
        have h1 : (backs (R.take i) fs).length ≤ (R.take i).length := by
          unfold backs
          rw [List.length_map]
          exact List.length_filter_le ..
        have h2 : (R.take i).length ≤ R.length := by rw [List.length_take]; omega
        rw [iv_len, sizeLine_eq]
        omega
      refine iteB (fun h0 => ?_) (fun h0 => ?_)
      · have h0' : q1.2.ch < 0 := by simpa using h0
        rw [if_pos h0'] at hb
        have gl := atI_nat (iv_at (lkb q1 hm))
        walk_at "g"
        refine ⟨_, e1, hz, Ch.wrN c1 nD e1 rfl, ?_⟩
        rw [upd_same, hb]
        simp [iv]
      · have h0' : ¬ q1.2.ch < 0 := by simpa using h0
        rw [if_neg h0'] at hb
        exact ⟨c1, by rw [hb]; exact e1⟩
    · rintro H1 ⟨c1, e1⟩
      rw [lr, List.take_length] at e1
      walk_at "g"
      have mem : ∀ q ∈ R, q.2.ch = -1 → fs.getD q.2.lk 0 ∈ backs R fs := fun q hq hc => by
        unfold backs
        exact List.mem_map.mpr ⟨q, List.mem_filter.mpr ⟨hq, by rw [hc]; rfl⟩, rfl⟩
      refine g_minL (ns := backs R fs) ⟨SqL.of e1, ?_, fun m hm hle => ?_⟩
      · obtain ⟨q1, hq1, hc1⟩ := ring_back okl ring
        exact List.ne_nil_of_mem (mem q1 hq1 hc1)
      · have mpos : 0 < m := by
          unfold backs at hm
          obtain ⟨q1, hq1, rfl⟩ := List.mem_map.mp hm
          obtain ⟨h1, h2⟩ := List.mem_filter.mp hq1
          refine ring_full ring h1 ?_
          rcases ring_ch ring q1 h1 with c | c
          · rw [c] at h2; cases h2
          · exact c
        have efl1 := c1.up _ _ efl (by simp)
        have send := fw.send ring mpos fun q1 hq1 hc1 => hle _ (mem q1 hq1 hc1)
        have hrl1 := c1.sqL hrl (by simp)
        walk_at "g"
        refine ⟨⟨_, hrl1⟩, for_it (walk_list (xs := ringV ws R)) (fun i σ' H' => ∃ x2 x3 x4, σ' = [some (.ref rl), some (.ref fl), x2, x3, x4, some (.int m)] ∧ Ch K [fl] H1 H' ∧ H' fl = some (.lst (iv (sendR m (R.take i) fs)))) ⟨_, _, _, rfl, Ch.refl, by rw [List.take_zero]; exact efl1⟩ (fun i σ' H' _ ⟨_, _, _, _, c, _⟩ => c.sqL hrl1 (by simpa using nrf)) ?_ ?_⟩
        · rintro i x σ _ H2 hi ⟨x2, x3, x4, rfl, c2, e2⟩ ⟨rfl, hx⟩
          obtain ⟨q1, a, hq, hm1, rfl, ha⟩ := ring_val (rw_.kt (c1.kt.trans c2.kt)) ring hx
          have hlk : q1.2.lk < (sendR m (R.take i) fs).length := by rw [sendR_len]; exact lkb q1 hm1
          refine g_gtup ha rfl ?_
          walk_at "g"
          have hch := ring_ch ring q1 hm1
          refine g_getL (SqL.of e2) (iv_at hlk) ?_
          walk_at "g"
          refine setL_nat e2 (by rw [iv_len]; exact hlk) ?_
          refine ⟨_, _, _, rfl, c2.trans (Ch.wrL e2 (by simp)), ?_⟩
          rw [upd_same, iv_set, take_snoc hq, sendR_snoc]
          rfl
        · rintro σ H2 ⟨x2, x3, x4, rfl, c2, e2⟩
          rw [lr, List.take_length] at e2
          exact q H2 _ ((c1.mono (by simp)).trans c2) e2 send.1 send.2
def spFullest (K : PySem.W.Frag) : Sp := fun vs H Q _ => ∃ (n : Nat) (a : Addr) (us : List V) (L : List Lnk), vs = [.int (n : Nat), .ref a] ∧ SqL K H a us ∧ Reps K H us (L.map lnkT) ∧ Okln n L ∧ 1 ≤ n ∧ n ≤ 1000 ∧ L.length ≤ 1000 ∧
  ∀ H' p fl hl fs h, Ch K [] H H' → H' p = some (.tup [.ref fl, .ref hl]) → H fl = none → H hl = none → fl ≠ hl → H' fl = some (.lst (iv fs)) → H' hl = some (.lst (hv n h)) → Best L fs h → Q (.ref p) H'
theorem fn_fullest (C : Cn w K mg base) : Fn P w K mg base CX0 3 "fullest" ["many", "links"] (spFullest K) := C.f_fullest fun fd F => by
  have F_steps_left : Fn P w K mg base CX0 1 "steps_left" ["links", "flows"] (spSteps K) := fn_steps C
  have F_climbed : Fn P w K mg base CX0 2 "climbed" ["many", "steps"] (spClimbed K) := fn_climbed C
  have F_send_round : Fn P w K mg base CX0 1 "send_round" ["ring", "flows"] (spSend K) := fn_send_round C
  refine F.ok (CX := CX0) sc_fullest (fun vs H Q E h => ?_) (fun cdv A outer s H vs Q E hr h => ?_)
  · obtain ⟨n, a, us, L, rfl, _⟩ := h
    rfl
  · obtain ⟨n, a, us, L, rfl, ha, ru, okl, n1, n2, lL, q⟩ := h
    refine ⟨_, PSs.nox (pss_cons (ps_setLc (i := 2) (own := [("_", 6), ("rise", 7)]) (g := (gTup K 3 (gCons (gName 6) (gCons (gName 6) (gCons (gName 7) gNil))))) (tt := tYes) rfl sc_fullest.nd rfl rfl (sw_true rfl rfl rfl (by decide +kernel)) (pi_list (pv 1)) (blkOk_by (own := [("_", 6), ("rise", 7)]) (N := ["many", "links", "flows", "steps", "heights", "ring", "_", "rise"]) (sc := defScope s_fullest) (by decide +kernel)) (fun _ _ _ _ _ => (pg_tup rfl (pgs_cons (pg_name (i := 6) sc_fullest.nd rfl (Or.inl rfl) (Or.inr rfl)) (pgs_cons (pg_name (i := 6) sc_fullest.nd rfl (Or.inl rfl) (Or.inr rfl)) (pgs_cons (pg_name (i := 7) sc_fullest.nd rfl (Or.inl rfl) (Or.inr rfl)) pgs_nil))))) (fun _ _ _ _ _ => pts_nil) (fun _ _ _ _ _ => (pv 7)))
      (pss_one (ps_while PassesOwn.never (pt_val pe_bl) (pss_cons (ps_set (i := 3) sc_fullest.nd rfl (Or.inl rfl) (pe_fn F_steps_left (rmm hr) (by rfl) pass0 (pa_cons (pv 1) (pa_cons (pv 2) pa_nil))))
      (pss_cons (ps_asg (pe_fn F_climbed (rmm hr) (by rfl) pass0 (pa_cons (pv 0) (pa_cons (pv 3) pa_nil))) (pg_tup rfl (pgs_cons (pg_name (i := 4) sc_fullest.nd rfl (Or.inl rfl)) (pgs_cons (pg_name (i := 5) sc_fullest.nd rfl (Or.inl rfl)) pgs_nil))))
      (pss_cons (ps_if (pt_not (pt_truth (pv 5) (by intro _; rfl))) (pss_one (ps_ret (pe_tupC (pa_cons (pv 2) (pa_cons (pv 4) pa_nil))))) pss_nil)
      (pss_one (ps_expr (pe_fn F_send_round (rmm hr) (by rfl) pass0 (pa_cons (pv 5) (pa_cons (pv 2) pa_nil))))))))))), ?_⟩
    have lu : us.length = L.length := by rw [ru.len, List.length_map]
    walk_at "go"
    refine ⟨⟨_, ha⟩, fun D nD => ?_⟩
    refine lc_it (walk_list (xs := us)) (fun i H' => Ch K [] H H' ∧ H' D = some (.lst (iv ((L.take i).map Lnk.ri)))) ⟨Ch.new nD, by rw [upd_same, List.take_zero]; rfl⟩ (fun i H' _ p => p.1.sqL ha (by simp)) ?_ ?_
    · rintro i x _ H2 hi ⟨c1, e1⟩ ⟨rfl, hx⟩
      obtain ⟨l, hl, rl⟩ := reps_map ru hx
      obtain ⟨la, rfl, hla⟩ := lnk_at (rl.kt c1.kt)
      refine g_gtup hla rfl ?_
      walk_at "g"
      refine ⟨rfl, ?_⟩
      simp only [tYes, ↓reduceIte]
      walk_at "g"
      refine ⟨_, e1, by rw [iv_len, List.length_map, List.length_take, sizeLine_eq]; omega, Ch.wrN c1 nD e1 rfl, ?_⟩
      rw [upd_same, take_snoc hl]
      simp [iv]
    · rintro H1 ⟨c1, e1⟩
      rw [lu, List.take_length] at e1
      have ha1 := c1.sqL ha (by simp)
      walk_at "g"
      refine g_while ?_
      refine ⟨fun t σ' H' => ∃ fs x3 x4 x5 x6 x7, t = (most L - fr L fs).toNat ∧ Flow L fs ∧ σ' = [some (.int (n : Nat)), some (.ref a), some (.ref D), x3, x4, x5, x6, x7] ∧ Ch K [] H H' ∧ H' D = some (.lst (iv fs)), ⟨_, risesOf L, _, _, _, _, _, rfl, Flow.start okl, rfl, c1, e1⟩, ?_⟩
      rintro t _ H2 ⟨fs, x3, x4, x5, x6, x7, rfl, fw, rfl, c2, e2⟩
      have ha2 := c2.sqL ha (by simp)
      walk_at "g"
      refine tkT rfl ?_
      refine ⟨fun σ' H' => ∃ fs' x3 x4 x5 x6 x7, Flow L fs' ∧ fr L fs < fr L fs' ∧ σ' = [some (.int (n : Nat)), some (.ref a), some (.ref D), x3, x4, x5, x6, x7] ∧ Ch K [] H H' ∧ H' D = some (.lst (iv fs')), ?_, ?_⟩
      · rintro σ' H' ⟨fs', y3, y4, y5, y6, y7, f1, f2, f3, f4, f5⟩
        have h1 := f1.most okl
        exact ⟨_, by omega, fs', y3, y4, y5, y6, y7, rfl, f1, f3, f4, f5⟩
      · walk_at "g"
        refine ⟨a, D, us, L, fs, rfl, ha2, ru.kt c2.kt, SqL.of e2, fw.len, lL, fun H3 sl ws c3 n3 e3 r3 => ?_⟩
        have c23 := c2.trans c3
        walk_at "g"
        refine ⟨n, sl, stepsOf L fs, ws, rfl, SqL.of e3, r3, okst_of okl, n1, n2, fun H4 p hl rl h c4 e4 nh nr eh alt => ?_⟩
        have c24 := c23.trans c4
        have eD4 := c4.up _ _ (c3.up _ _ e2 (by simp)) (by simp)
        have nDh : D ≠ hl := fun e => by rw [← e, c3.up _ _ e2 (by simp)] at nh; cases nh
        have nDr : rl ≠ D := fun e => by rw [e, c3.up _ _ e2 (by simp)] at nr; cases nr
        walk_at "g"
        rcases alt with ⟨⟨pp, cb, ci⟩, er⟩ | ⟨R, ring, lR, er⟩
        · refine ⟨false, .inl ⟨[], SqL.of er, rfl⟩, ?_⟩
          walk_at "yes"
          refine ⟨szle (by simp), fun p2 H5 n5 e5 c5 => ?_⟩
          exact q H5 p2 D hl fs h (c24.trans c5) e5 nD (c23.free nh (by simp)) nDh (c5.up _ _ eD4 (by simp)) (c5.up _ _ eh (by simp)) (Best.of (j := 0) fw ci)
        · refine ⟨true, .inl ⟨_, SqL.of er, ?_⟩, ?_⟩
          · have := ring.ne
            cases R with
            | nil => exact (this rfl).elim
            | cons q1 r => rfl
          · walk_at "no"
            refine ⟨rl, D, n, L, fs, R, ws, rfl, SqL.of er, r3.kt c4.kt, ring, lR, eD4, nDr, fw, okl, fun H5 fs' c5 e5 f1 f2 => ?_⟩
            walk_at "g"
            refine ⟨fs', _, _, _, _, _, f1, f2, rfl, ?_, e5⟩
            refine ⟨fun b o hb nn => c5.up b o (c24.up b o hb nn) fun z => ?_, c24.kt.trans c5.kt⟩
            simp at z
            rw [z, nD] at hb
            cases hb
end
end K3
end

section
set_option maxRecDepth 100000
set_option maxHeartbeats 1000000
open Bq L2
/-- one step of a reading; what is left are side goals and places to think -/
local macro_rules | `(tactic| walk_at "g1") => `(tactic| first
  | with_reducible refine' g_seq ?_ | with_reducible refine' g_asg ?_ | with_reducible refine' g_drop ?_ | with_reducible refine' g_ret ?_ | with_reducible refine' g_ifS ?_ | with_reducible refine' g_asgG ?_
  | ((with_reducible refine' g_var ?hv ?_); (case hv => rfl))
  | with_reducible refine' g_c ?_ | with_reducible refine' g_op ?_ | with_reducible refine' g_un ?_ | with_reducible refine' g_I0 ?_ | with_reducible refine' g_U ?_
  | with_reducible refine' g_test ?_ | with_reducible refine' g_tB ?_ | with_reducible refine Exists.intro _ (And.intro rfl ?_) 
  | ((with_reducible refine' g_andP ?ha ?hb ?_); (case ha => intro R q; walk_at "g"; exact q); (case hb => intro R q; walk_at "g"; exact q))
  | ((with_reducible refine' g_orP ?ha ?hb ?_); (case ha => intro R q; walk_at "g"; exact q); (case hb => intro R q; walk_at "g"; exact q))
  | with_reducible refine' g_and ?_ | with_reducible refine' g_or ?_ | with_reducible refine' g_not ?_
  | with_reducible refine' g_andV ?_ | with_reducible refine' g_orV ?_ | with_reducible refine' g_notV ?_ | with_reducible refine' g_if ?_ | with_reducible refine' g_nil ?_ | with_reducible refine' g_cons ?_
  | with_reducible refine' g_tup ?_ | with_reducible refine' g_lst ?_ | with_reducible refine' g_CB ?_ | with_reducible refine' g_Fn ?_ | with_reducible refine' g_next ?_ | with_reducible refine' g_retN ?_
  | with_reducible refine' g_name ?_ | with_reducible refine' g_sub ?_
  | ((with_reducible refine' g_ixL ?hs ?he ?_); (case hs => walk_at "lk"); (case he => walk_at "at"))
  | ((with_reducible refine' g_ixT ?hs ?he ?_); (case hs => walk_at "lk"); (case he => walk_at "at"))
  | ((with_reducible refine' g_setL ?hs ?he ?_); (case hs => walk_at "hp"); (case he => rfl))
  | ((with_reducible refine' g_app ?hs ?hz ?_); (case hs => walk_at "hp"); (case hz => walk_at "sz"))
  | ((with_reducible refine' ⟨_, _, rfl, Or.inl ?hs, ?_⟩); (case hs => walk_at "lk"))
  | ((with_reducible refine' ⟨_, _, rfl, Or.inr ?hs, ?_⟩); (case hs => walk_at "lk"))
  | with_reducible refine' g_BM ?_ | with_reducible refine' g_BM0 ?_ | ((with_reducible refine' g_tyL ?hs ?_); (case hs => walk_at "lk"))
  | with_reducible refine' g_sl ?_ | with_reducible refine' g_noPart ?_ | with_reducible refine' g_part ?_
  | ((with_reducible refine' g_inT ?hs ?fx ?fs ?_); (case hs => walk_at "lk"); (case fx => rfl); (case fs => rfl))
  | with_reducible refine' g_pair ?_ | with_reducible refine' g_pair0 ?_ | with_reducible refine' g_disp ?_
  | with_reducible refine' g_for ?_ | with_reducible refine' g_tupC ?_ | with_reducible refine' g_lstC ?_ | ((with_reducible refine' g_lens ?_)) | with_reducible refine' g_dg ?_ | with_reducible refine' g_lc ?_ | with_reducible refine' g_rng1 ?_ | with_reducible refine' g_ilist ?_ | with_reducible refine' g_itup ?_
  | ((with_reducible refine' ⟨_, _, rfl, ?hd, ?_⟩); (case hd => walk_at "dg"))
  | ((with_reducible refine' g_eqNil ?hs ?hz ?_); (case hs => walk_at "lk"); (case hz => walk_at "lk"))
  | ((with_reducible refine' g_neNil ?hs ?hz ?_); (case hs => walk_at "lk"); (case hz => walk_at "lk"))
  | with_reducible refine Or.inl ⟨_, rfl, ?_⟩
  | with_reducible refine Or.inr ⟨_, rfl, ?_⟩
  | ((with_reducible refine' g_eq ?hs ?_); (case hs => rfl))
  | ((with_reducible refine' g_ne ?hs ?_); (case hs => rfl))
  | ((with_reducible refine' g_I ?hc ?_); (case hc => walk_at "ar")))
/-- arithmetic's side conditions -/
local macro_rules | `(tactic| walk_at "ar") => `(tactic| (first
  | (show (0 : Int) < _; first | omega | decide) | (show (0 : Int) < _ ∧ _; constructor <;> omega) | (show ¬ (_ : Int) = _; omega) | (show (_ : Int) ≠ _ ∧ _; constructor <;> omega)
  | (show (-(2 ^ 64) < _ ∧ _) ∨ _; (first | (left; constructor <;> omega) | (right; constructor <;> omega))) | (show (0 : Int) ≤ _ ∧ _ ∧ _; refine ⟨by omega, by omega, by decide⟩)))
/-- what stands at an index -/
local macro_rules | `(tactic| walk_at "at") => `(tactic| first | rfl | assumption)
/-- what stands at an address -/
local macro_rules | `(tactic| walk_at "hp") => `(tactic| first | assumption | exact upd_same | ((refine' Eq.trans (upd_ne ?hn) ?hm); (case hm => walk_at "hp"); (case hn => walk_at "ne")))
/-- two places are two -/
local macro_rules | `(tactic| walk_at "ne") => `(tactic| first
  | assumption | exact Ne.symm (by assumption)
  | ((refine' ne_of_none ?ha ?hb); (case hb => assumption); (case ha => walk_at "hp")) | ((refine' Ne.symm (ne_of_none ?ha ?hb)); (case hb => assumption); (case ha => walk_at "hp")))
/-- what a dict tells -/
local macro_rules | `(tactic| walk_at "dg") => `(tactic| first | assumption)
/-- a length -/
local macro_rules | `(tactic| walk_at "sz") => `(tactic| first | (show _ ≤ sizeLine; decide) | (show _ < sizeLine; decide) | assumption | exact szlt (by simp) | exact szle (by simp))
/-- a list or tuple that stands -/
local macro_rules | `(tactic| walk_at "lk") => `(tactic| first | assumption | exact SqL.of (by assumption) | exact SqT.of (by assumption) | exact SqL.of upd_same | exact SqT.of upd_same | (refine' FzL.sq ?hm; (case hm => walk_at "fz")))
/-- a list that nobody writes -/
local macro_rules | `(tactic| walk_at "fz") => `(tactic| first | assumption | ((refine' FzL.uw ?hm ?hx); (case hx => walk_at "hp"); (case hm => walk_at "fz")) | ((refine' FzL.nw ?hm ?hx); (case hx => assumption); (case hm => walk_at "fz")))
/-- as far as it goes by itself -/
local macro_rules | `(tactic| walk_at "g") => `(tactic| repeat walk_at "g1")
/-- the body's reading, its places in short -/
local macro_rules | `(tactic| walk_at "go") => `(tactic| ((try dsimp only [cxOf, Cx.nox, Cx.wish]); walk_at "g"))
namespace K3
open PySem PySem.Spec PyProof.Rows L2 Bq
section
variable {P : Program} {w : World} {K : PySem.W.Frag} {mg : Str → Option Value} {base : Heap}
/-- further steps: dicts written, tuples taken apart -/
local macro_rules | `(tactic| walk_at "g1") => `(tactic| first
  | with_reducible refine' g_sdput ?_
  | ((with_reducible refine' g_gtup ?hs ?hl ?_); (case hs => walk_at "lk"); (case hl => rfl))
  | with_reducible refine' g_gcons ?_
  | with_reducible refine' g_gnil ?_
  | with_reducible refine' And.intro (Eq.refl V.non) ?_
  | with_reducible refine' g_isN ?_
  | ((with_reducible refine' g_chainR ?ha ?hb ?hc ?_); (case ha => intro R q; walk_at "g"; exact q); (case hb => intro R q; walk_at "g"; exact q); (case hc => intro R q; walk_at "g"; exact q))
  | with_reducible refine' g_notN ?_)
/-- what the law's dict tells -/
local macro_rules | `(tactic| walk_at "dg") => `(tactic| first
  | assumption
  | exact LH.gfuns (by assumption)
  | exact LH.gsaid (by assumption)
  | exact LH.gcells (by assumption)
  | exact LH.gfuel (by assumption)
  | exact LH.gend (by assumption)
  | exact LH.gcalls (by assumption)
  | exact LH.gnames (by assumption)
  | exact LH.gwaits (by assumption)
  | exact LH.gworth (by assumption)
  | exact LH.glook (by assumption))
/-- a test that fails, that holds, by itself -/
local macro_rules | `(tactic| walk_at "no") => `(tactic| ((refine tkF rfl ?_); walk_at "g"))
local macro_rules | `(tactic| walk_at "yes") => `(tactic| ((refine tkT rfl ?_); walk_at "g"))
local macro_rules | `(tactic| walk_at "g1") => `(tactic| first
  | with_reducible refine' g_catS ?_
  | with_reducible refine' g_mulS ?_
  | with_reducible refine' g_rev ?_)
/-! ### the program: what stands behind a word -/
theorem pe_kget2 {X : Cx} {d : Addr} {i : Expr} {pos p : Pos} {x : Str} {ty : TE} (hD : ∃ es n, KDict X.K X.w d es n) (hg : Gl X x) (hm : X.mg x = some (.ref d)) (hi : PE X i ty) (hs : NoSl i) (hdb : (x == ("__debug__" : Str)) = false := by decide) : PE X (.Subscript (.Name x p) i pos) (tKGet X.K (tC (.ref d)) ty) :=
  pe_kget (o := i) hD hg hm hi hs hdb
def isIntT : T → Bool
  | .int _ => true
  | _ => false
def spIsNum (K : PySem.W.Frag) : Sp := fun vs H Q _ => ∃ v t, vs = [v] ∧ Rep K H v t ∧ Q (.bl (isIntT t)) H
theorem fn_is_number (C : Cn w K mg base) : Fn P w K mg base CX0 1 "is_number" ["thing"] (spIsNum K) := C.f_is_number fun fd F => by
  refine F.ok (CX := CX0) sc_is_number (fun vs H Q E h => ?_) (fun cdv A outer s H vs Q E hr h => ?_)
  · obtain ⟨v, t, rfl, _⟩ := h
    rfl
  · obtain ⟨v, t, rfl, r, q⟩ := h
    refine ⟨_, PSs.nox (pss_one (ps_ret (pe_mid (pe_and (pe_callB call_isi (by rfl) (C.m_isinstance) (by decide +kernel) (pa_cons (pv 0) (pa_cons (pe_bty "int" (by rfl) (C.m_int) (by decide +kernel)) pa_nil))) (pe_one (pe_not (pe_callB call_isi (by rfl) (C.m_isinstance) (by decide +kernel) (pa_cons (pv 0) (pa_cons (pe_bty "bool" (by rfl) (C.m_bool) (by decide +kernel)) pa_nil))))))))), ?_⟩
    walk_at "go"
    refine g_midE (fun v' H' => v' = .bl (isIntT t) ∧ H' = H) ?_ ?_
    · walk_at "g"
      refine g_isi r.ty (kit_int t) ?_
      cases t with
      | int i =>
        walk_at "g"
        walk_at "yes"
        refine g_isi r.ty (kit_bool (.int i)) ?_
        walk_at "g"
        exact ⟨rfl, rfl⟩
      | str i =>
        walk_at "g"
        walk_at "no"
        exact ⟨rfl, rfl⟩
      | tup i =>
        walk_at "g"
        walk_at "no"
        exact ⟨rfl, rfl⟩
    · rintro _ H1 ⟨rfl, e1⟩
      rw [e1]
      exact q
def plT : Th → List Str
  | .p (.num _) => ["n"]
  | .p (.name _) => ["name"]
  | .p (.bin _ _ _) => ["part", "part"]
  | .p (.nt _) => ["part"]
  | .p (.get _) => ["part"]
  | .p (.call _ _) => ["fun", "parts"]
  | .d (.set _ _) => ["name", "part"]
  | .d (.put _ _) => ["part", "part"]
  | .d (.say _) => ["part"]
  | .d (.ite _ _ _) => ["part", "body", "body"]
  | .d (.whl _ _) => ["part", "body"]
  | .d (.ret _) => ["part"]
  | .d (.dop _) => ["part"]
theorem plT_len (t : Th) : (plT t).length = (restT t).length := by
  cases t with
  | p p => cases p <;> rfl
  | d d => cases d <;> rfl
theorem deeds_tab (C : Cn w K mg base) (t : Th) : match t with
    | .p _ => PySem.W.nsIn K (He.ga K "DEEDS") (wdT t) = some none
    | .d _ => ∃ a, PySem.W.nsIn K (He.ga K "DEEDS") (wdT t) = some (some (.ref a)) ∧ ∀ H, SqT K H a ((plT t).map V.str) := by
  cases t with
  | p p => cases p with
    | bin op a b => cases op <;> exact modTab_no C.v_DEEDS (by simp only [wdT, Op.str, plT]; decide +kernel)
    | _ => exact modTab_no C.v_DEEDS (by simp only [wdT, Op.str, plT]; decide +kernel)
  | d d => cases d <;> exact modTab_yes C.v_DEEDS (by simp only [wdT, Op.str, plT]; decide +kernel)
theorem parts_tab (C : Cn w K mg base) (t : Th) : match t with
    | .d _ => PySem.W.nsIn K (He.ga K "PARTS") (wdT t) = some none
    | .p _ => ∃ a, PySem.W.nsIn K (He.ga K "PARTS") (wdT t) = some (some (.ref a)) ∧ ∀ H, SqT K H a ((plT t).map V.str) := by
  cases t with
  | p p => cases p with
    | bin op a b => cases op <;> exact modTab_yes C.v_PARTS (by simp only [wdT, Op.str, plT]; decide +kernel)
    | _ => exact modTab_yes C.v_PARTS (by simp only [wdT, Op.str, plT]; decide +kernel)
  | d d => cases d <;> exact modTab_no C.v_PARTS (by simp only [wdT, Op.str, plT]; decide +kernel)
def spPlaces (K : PySem.W.Frag) : Sp := fun vs H Q _ => ∃ t, vs = [.str (wdT t)] ∧ ∀ a, (∀ H', SqT K H' a ((plT t).map V.str)) → Q (.ref a) H
theorem g_kget {td ty : TE} {σ : L2.St} {H : Hp} {Q : VK} (h : td σ H fun x H1 => ty σ H1 fun y H2 => ∃ (d : Addr) (z : Str) (u0 : Value) (v0 : V), x = .ref d ∧ y = .str z ∧ PySem.W.nsIn K d z = some (some u0) ∧ RelV v0 u0 ∧ Q v0 H2) : tKGet K td ty σ H Q := h
theorem fn_places (C : Cn w K mg base) : Fn P w K mg base CX0 1 "places_behind" ["word"] (spPlaces K) := C.f_places_behind fun fd F => by
  refine F.ok (CX := CX0) sc_places_behind (fun vs H Q E h => ?_) (fun cdv A outer s H vs Q E hr h => ?_)
  · obtain ⟨t, rfl, _⟩ := h
    rfl
  · obtain ⟨t, rfl, q⟩ := h
    refine ⟨_, PSs.nox (pss_cons (ps_if (pt_cmpR (op_in_mod C.k_DEEDS) (pv 0) (pe_glob (v := .ref _) (by rfl) C.g_DEEDS rfl) (by rfl)) (pss_one (ps_ret (pe_kget2 C.k_DEEDS (by rfl) C.g_DEEDS (pv 0) (fun _ _ => rfl)))) pss_nil)
      (pss_one (ps_ret (pe_kget2 C.k_PARTS (by rfl) C.g_PARTS (pv 0) (fun _ _ => rfl))))), ?_⟩
    have hd := deeds_tab C t
    have hp := parts_tab C t
    walk_at "go"
    cases t with
    | p p =>
      refine ⟨_, _, rfl, rfl, hd, ?_⟩
      walk_at "g"
      walk_at "no"
      refine g_kget ?_
      obtain ⟨a, ha, hS⟩ := hp
      walk_at "g"
      exact ⟨_, _, _, .ref a, rfl, rfl, ha, rfl, q a hS⟩
    | d d =>
      obtain ⟨a, ha, hS⟩ := hd
      refine ⟨_, _, rfl, rfl, ha, ?_⟩
      walk_at "g"
      walk_at "yes"
      refine g_kget ?_
      walk_at "g"
      exact ⟨_, _, _, .ref a, rfl, rfl, ha, rfl, q a hS⟩
end
end K3
end

section
set_option maxRecDepth 100000
set_option maxHeartbeats 1000000
open Bq L2
/-- one step of a reading; what is left are side goals and places to think -/
local macro_rules | `(tactic| walk_at "g1") => `(tactic| first
  | with_reducible refine' g_seq ?_ | with_reducible refine' g_asg ?_ | with_reducible refine' g_drop ?_ | with_reducible refine' g_ret ?_ | with_reducible refine' g_ifS ?_ | with_reducible refine' g_asgG ?_
  | ((with_reducible refine' g_var ?hv ?_); (case hv => rfl))
  | with_reducible refine' g_c ?_ | with_reducible refine' g_op ?_ | with_reducible refine' g_un ?_ | with_reducible refine' g_I0 ?_ | with_reducible refine' g_U ?_
  | with_reducible refine' g_test ?_ | with_reducible refine' g_tB ?_ | with_reducible refine Exists.intro _ (And.intro rfl ?_) 
  | ((with_reducible refine' g_andP ?ha ?hb ?_); (case ha => intro R q; walk_at "g"; exact q); (case hb => intro R q; walk_at "g"; exact q))
  | ((with_reducible refine' g_orP ?ha ?hb ?_); (case ha => intro R q; walk_at "g"; exact q); (case hb => intro R q; walk_at "g"; exact q))
  | with_reducible refine' g_and ?_ | with_reducible refine' g_or ?_ | with_reducible refine' g_not ?_
  | with_reducible refine' g_andV ?_ | with_reducible refine' g_orV ?_ | with_reducible refine' g_notV ?_ | with_reducible refine' g_if ?_ | with_reducible refine' g_nil ?_ | with_reducible refine' g_cons ?_
  | with_reducible refine' g_tup ?_ | with_reducible refine' g_lst ?_ | with_reducible refine' g_CB ?_ | with_reducible refine' g_Fn ?_ | with_reducible refine' g_next ?_ | with_reducible refine' g_retN ?_
  | with_reducible refine' g_name ?_ | with_reducible refine' g_sub ?_
  | ((with_reducible refine' g_ixL ?hs ?he ?_); (case hs => walk_at "lk"); (case he => walk_at "at"))
  | ((with_reducible refine' g_ixT ?hs ?he ?_); (case hs => walk_at "lk"); (case he => walk_at "at"))
  | ((with_reducible refine' g_setL ?hs ?he ?_); (case hs => walk_at "hp"); (case he => rfl))
  | ((with_reducible refine' g_app ?hs ?hz ?_); (case hs => walk_at "hp"); (case hz => walk_at "sz"))
  | ((with_reducible refine' ⟨_, _, rfl, Or.inl ?hs, ?_⟩); (case hs => walk_at "lk"))
  | ((with_reducible refine' ⟨_, _, rfl, Or.inr ?hs, ?_⟩); (case hs => walk_at "lk"))
  | with_reducible refine' g_BM ?_ | with_reducible refine' g_BM0 ?_ | ((with_reducible refine' g_tyL ?hs ?_); (case hs => walk_at "lk"))
  | with_reducible refine' g_sl ?_ | with_reducible refine' g_noPart ?_ | with_reducible refine' g_part ?_
  | ((with_reducible refine' g_inT ?hs ?fx ?fs ?_); (case hs => walk_at "lk"); (case fx => rfl); (case fs => rfl))
  | with_reducible refine' g_pair ?_ | with_reducible refine' g_pair0 ?_ | with_reducible refine' g_disp ?_
  | with_reducible refine' g_for ?_ | with_reducible refine' g_tupC ?_ | with_reducible refine' g_lstC ?_ | ((with_reducible refine' g_lens ?_)) | with_reducible refine' g_dg ?_ | with_reducible refine' g_lc ?_ | with_reducible refine' g_rng1 ?_ | with_reducible refine' g_ilist ?_ | with_reducible refine' g_itup ?_
  | ((with_reducible refine' ⟨_, _, rfl, ?hd, ?_⟩); (case hd => walk_at "dg"))
  | ((with_reducible refine' g_eqNil ?hs ?hz ?_); (case hs => walk_at "lk"); (case hz => walk_at "lk"))
  | ((with_reducible refine' g_neNil ?hs ?hz ?_); (case hs => walk_at "lk"); (case hz => walk_at "lk"))
  | with_reducible refine Or.inl ⟨_, rfl, ?_⟩
  | with_reducible refine Or.inr ⟨_, rfl, ?_⟩
  | ((with_reducible refine' g_eq ?hs ?_); (case hs => rfl))
  | ((with_reducible refine' g_ne ?hs ?_); (case hs => rfl))
  | ((with_reducible refine' g_I ?hc ?_); (case hc => walk_at "ar")))
/-- arithmetic's side conditions -/
local macro_rules | `(tactic| walk_at "ar") => `(tactic| (first
  | (show (0 : Int) < _; first | omega | decide) | (show (0 : Int) < _ ∧ _; constructor <;> omega) | (show ¬ (_ : Int) = _; omega) | (show (_ : Int) ≠ _ ∧ _; constructor <;> omega)
  | (show (-(2 ^ 64) < _ ∧ _) ∨ _; (first | (left; constructor <;> omega) | (right; constructor <;> omega))) | (show (0 : Int) ≤ _ ∧ _ ∧ _; refine ⟨by omega, by omega, by decide⟩)))
/-- what stands at an index -/
local macro_rules | `(tactic| walk_at "at") => `(tactic| first | rfl | assumption)
/-- what stands at an address -/
local macro_rules | `(tactic| walk_at "hp") => `(tactic| first | assumption | exact upd_same | ((refine' Eq.trans (upd_ne ?hn) ?hm); (case hm => walk_at "hp"); (case hn => walk_at "ne")))
/-- two places are two -/
local macro_rules | `(tactic| walk_at "ne") => `(tactic| first
  | assumption | exact Ne.symm (by assumption)
  | ((refine' ne_of_none ?ha ?hb); (case hb => assumption); (case ha => walk_at "hp")) | ((refine' Ne.symm (ne_of_none ?ha ?hb)); (case hb => assumption); (case ha => walk_at "hp")))
/-- what a dict tells -/
local macro_rules | `(tactic| walk_at "dg") => `(tactic| first | assumption)
/-- a length -/
local macro_rules | `(tactic| walk_at "sz") => `(tactic| first | (show _ ≤ sizeLine; decide) | (show _ < sizeLine; decide) | assumption | exact szlt (by simp) | exact szle (by simp))
/-- a list or tuple that stands -/
local macro_rules | `(tactic| walk_at "lk") => `(tactic| first | assumption | exact SqL.of (by assumption) | exact SqT.of (by assumption) | exact SqL.of upd_same | exact SqT.of upd_same | (refine' FzL.sq ?hm; (case hm => walk_at "fz")))
/-- a list that nobody writes -/
local macro_rules | `(tactic| walk_at "fz") => `(tactic| first | assumption | ((refine' FzL.uw ?hm ?hx); (case hx => walk_at "hp"); (case hm => walk_at "fz")) | ((refine' FzL.nw ?hm ?hx); (case hx => assumption); (case hm => walk_at "fz")))
/-- as far as it goes by itself -/
local macro_rules | `(tactic| walk_at "g") => `(tactic| repeat walk_at "g1")
/-- the body's reading, its places in short -/
local macro_rules | `(tactic| walk_at "go") => `(tactic| ((try dsimp only [cxOf, Cx.nox, Cx.wish]); walk_at "g"))
namespace K3
open PySem PySem.Spec PyProof.Rows L2 Bq
section
variable {P : Program} {w : World} {K : PySem.W.Frag} {mg : Str → Option Value} {base : Heap}
/-- further steps: dicts written, tuples taken apart -/
local macro_rules | `(tactic| walk_at "g1") => `(tactic| first
  | with_reducible refine' g_sdput ?_
  | ((with_reducible refine' g_gtup ?hs ?hl ?_); (case hs => walk_at "lk"); (case hl => rfl))
  | with_reducible refine' g_gcons ?_
  | with_reducible refine' g_gnil ?_
  | with_reducible refine' And.intro (Eq.refl V.non) ?_
  | with_reducible refine' g_isN ?_
  | ((with_reducible refine' g_chainR ?ha ?hb ?hc ?_); (case ha => intro R q; walk_at "g"; exact q); (case hb => intro R q; walk_at "g"; exact q); (case hc => intro R q; walk_at "g"; exact q))
  | with_reducible refine' g_notN ?_)
/-- what the law's dict tells -/
local macro_rules | `(tactic| walk_at "dg") => `(tactic| first
  | assumption
  | exact LH.gfuns (by assumption)
  | exact LH.gsaid (by assumption)
  | exact LH.gcells (by assumption)
  | exact LH.gfuel (by assumption)
  | exact LH.gend (by assumption)
  | exact LH.gcalls (by assumption)
  | exact LH.gnames (by assumption)
  | exact LH.gwaits (by assumption)
  | exact LH.gworth (by assumption)
  | exact LH.glook (by assumption))
/-- a test that fails, that holds, by itself -/
local macro_rules | `(tactic| walk_at "no") => `(tactic| ((refine tkF rfl ?_); walk_at "g"))
local macro_rules | `(tactic| walk_at "yes") => `(tactic| ((refine tkT rfl ?_); walk_at "g"))
local macro_rules | `(tactic| walk_at "g1") => `(tactic| first
  | with_reducible refine' g_catS ?_
  | with_reducible refine' g_mulS ?_
  | with_reducible refine' g_rev ?_)
/-! ### parts and bodies of a thing -/
theorem lcZ {a b : Addr} {xs ys : List V} {g : TG} {tt : TT} {te : TE} {vs : List Nat} {σ : L2.St} {H1 : Hp} {D : Addr} {Qd : Hp → Prop} (hl : xs.length = ys.length) (Pv : Nat → Hp → Prop) (h0 : Pv 0 (upd H1 D (.lst []))) (hq : ∀ i H, Pv i H → SqT K H a xs ∧ SqT K H b ys)
    (hs : ∀ (i : Nat) x y T H, xs[i]? = some x → ys[i]? = some y → Pv i H → H T = none → g (.ref T) (wipe σ vs) (upd H T (.tup [x, y])) fun σ2 H2 => wipe σ2 vs = wipe σ vs ∧ tt σ2 H2 fun b H3 =>
      if b = true then te σ2 H3 fun y H4 => ∃ acc, H4 D = some (.lst acc) ∧ acc.length < sizeLine ∧ Pv (i + 1) (upd H4 D (.lst (acc ++ [y]))) else Pv (i + 1) H3) (hd : ∀ H, Pv xs.length H → Qd H) :
    ∃ W : Nat → Nat → Hp → Prop, (∃ m, W 0 m (upd H1 D (.lst []))) ∧ ∀ i m H, W i m H →
      ((RZ.ItzT K a b).stop i H ∧ Qd H) ∨ ((RZ.ItzT K a b).go i H ∧ ∃ Nx : Hp → Prop, (∀ H', Nx H' → ∃ m', m' < m ∧ W (i + 1) m' H') ∧ ∀ x H', (RZ.ItzT K a b).yld i H x H' → g x (wipe σ vs) H' fun σ2 H2 => wipe σ2 vs = wipe σ vs ∧ tt σ2 H2 fun b H3 =>
        if b = true then te σ2 H3 fun y H4 => ∃ acc, H4 D = some (.lst acc) ∧ acc.length < sizeLine ∧ Nx (upd H4 D (.lst (acc ++ [y]))) else Nx H3) := by
  refine ⟨fun i m H => m = xs.length - i ∧ i ≤ xs.length ∧ Pv i H, ⟨xs.length, rfl, Nat.zero_le _, h0⟩, ?_⟩
  rintro i m H ⟨rfl, hi, p⟩
  obtain ⟨qx, qy⟩ := hq i H p
  by_cases hlt : i < xs.length
  · have hx : xs[i]? = some xs[i] := List.getElem?_eq_getElem hlt
    have hlt2 : i < ys.length := by omega
    have hy : ys[i]? = some ys[i] := List.getElem?_eq_getElem hlt2
    refine .inr ⟨⟨xs, ys, _, _, qx, qy, hx, hy⟩, Pv (i + 1), fun H' p' => ⟨xs.length - (i + 1), by omega, rfl, hlt, p'⟩, fun v H' y => ?_⟩
    obtain ⟨T, x', y', rfl, hT, rfl, f1, f2⟩ := y
    exact hs i x' y' T H (f1 xs qx) (f2 ys qy) p hT
  · have e : i = xs.length := by omega
    subst e
    exact .inl ⟨⟨xs, ys, qx, qy, Or.inl (Nat.le_refl _)⟩, hd H p⟩
def filT (w : Str) : List Str → List T → List T
  | s :: ss, t :: ts => if s = w then t :: filT w ss ts else filT w ss ts
  | _, _ => []
theorem filT_take (w : Str) : ∀ (ss : List Str) (ts : List T) (i : Nat) (s : Str) (t : T), ss[i]? = some s → ts[i]? = some t → filT w (ss.take (i + 1)) (ts.take (i + 1)) = filT w (ss.take i) (ts.take i) ++ (if s = w then [t] else [])
  | [], _, i, s, t, h, _ => by simp at h
  | _ :: _, [], i, s, t, _, h => by simp at h
  | a :: ss, b :: ts, 0, s, t, h, k => by
    simp at h k
    subst h
    subst k
    simp only [List.take_succ_cons, List.take_zero, filT]
    split <;> rfl
  | a :: ss, b :: ts, i + 1, s, t, h, k => by
    have ih := filT_take w ss ts i s t (by simpa using h) (by simpa using k)
    simp only [List.take_succ_cons, filT]
    rw [ih]
    split <;> simp
theorem filT_le (w : Str) : ∀ (ss : List Str) (ts : List T), (filT w ss ts).length ≤ ss.length
  | [], _ => Nat.zero_le _
  | _ :: _, [] => Nat.zero_le _
  | a :: ss, b :: ts => by
    have := filT_le w ss ts
    simp only [filT]
    split <;> simp only [List.length_cons] <;> omega
theorem fil_parts {t : Th} (h : notCall t) : filT "part" (plT t) (restT t) = encPs (innerT t) := by
  cases t with
  | p p => cases p with
    | call f ps => exact h.elim
    | _ => rfl
  | d d => cases d <;> rfl
def bodT : Th → List (List Dd)
  | .d (.ite _ a b) => [a, b]
  | .d (.whl _ b) => [b]
  | _ => []
theorem fil_bodies (t : Th) : filT "body" (plT t) (restT t) = (bodT t).map fun b => .tup (encB b) := by
  cases t with
  | p p => cases p <;> rfl
  | d d => cases d <;> rfl
theorem plT_le (t : Th) : (plT t).length ≤ 3 := by
  cases t with
  | p p => cases p <;> simp [plT]
  | d d => cases d <;> simp [plT]
def spBodies (K : PySem.W.Frag) : Sp := fun vs H Q _ => ∃ v t, vs = [v] ∧ Rep K H v (encT t) ∧ ∀ H' l us, Ch K [] H H' → H l = none → H' l = some (.lst us) → Reps K H' us ((bodT t).map fun b => .tup (encB b)) → Q (.ref l) H'
/-- the comprehension of both -/
theorem lc_fil {w : Str} {t : Th} {a b : Addr} {us : List V} {σ : L2.St} {H0 H1 : Hp} {D : Addr} {Q : VK} (hw : ∀ u v : Option V, wipe ((((wipe σ [1, 2]).set 1 u).set 2 v)) [1, 2] = wipe σ [1, 2]) (h3 : 2 < σ.length)
    (c : Ch K [] H0 H1) (nD : H1 D = none) (hS : SqT K H1 a ((plT t).map V.str)) (hS2 : SqT K H1 b us) (rs : Reps K H1 us (restT t)) (q : ∀ H', Ch K [] H0 H' → (∃ us', H' D = some (.lst us') ∧ Reps K H' us' (filT w (plT t) (restT t))) → Q (.ref D) H') :
    ∃ W : Nat → Nat → Hp → Prop, (∃ m, W 0 m (upd H1 D (.lst []))) ∧ ∀ i m H, W i m H →
      ((RZ.ItzT K a b).stop i H ∧ Q (.ref D) H) ∨ ((RZ.ItzT K a b).go i H ∧ ∃ Nx : Hp → Prop, (∀ H', Nx H' → ∃ m', m' < m ∧ W (i + 1) m' H') ∧ ∀ x H', (RZ.ItzT K a b).yld i H x H' → gTup K 2 (gCons (gName 1) (gCons (gName 2) gNil)) x (wipe σ [1, 2]) H' fun σ2 H2 => wipe σ2 [1, 2] = wipe σ [1, 2] ∧ tTest (tOp rEq (tVar 1) (tC (.str w))) σ2 H2 fun b H3 =>
        if b = true then tVar 2 σ2 H3 fun y H4 => ∃ acc, H4 D = some (.lst acc) ∧ acc.length < sizeLine ∧ Nx (upd H4 D (.lst (acc ++ [y]))) else Nx H3) := by
  have hpl := plT_le t
  have ll : ((plT t).map V.str).length = us.length := by rw [List.length_map, plT_len, rs.len]
  refine lcZ (xs := (plT t).map V.str) (ys := us) ll (fun i H' => Ch K [] H1 H' ∧ ∃ us', H' D = some (.lst us') ∧ Reps K H' us' (filT w ((plT t).take i) ((restT t).take i))) ⟨Ch.new nD, [], upd_same, by
      rw [List.take_zero]
      exact .nil⟩ (fun i H' p => ⟨p.1.sqT hS, p.1.sqT hS2⟩) ?_ ?_
  · rintro i x y T H2 hx hy ⟨c2, us', eD, r2⟩ nT
    rw [List.getElem?_map] at hx
    cases es : (plT t)[i]? with
    | none => rw [es] at hx; cases hx
    | some s =>
      rw [es] at hx
      obtain rfl : V.str s = x := Option.some.inj hx
      obtain ⟨ty, ety, ry⟩ := rs.get hy
      have cT : Ch K [] H2 (upd H2 T (.tup [.str s, y])) := Ch.new nT
      have eT : (upd H2 T (.tup [.str s, y])) T = some (.tup [.str s, y]) := upd_same
      generalize upd H2 T (.tup [.str s, y]) = H3 at cT eT ⊢
      refine ⟨T, _, rfl, SqT.of eT, rfl, _, _, rfl, _, _, rfl, rfl, ?_, ?_⟩
      · exact hw _ _
      · have l2 : 2 < (wipe σ [1, 2]).length := by
          rw [wipe_length]
          exact h3
        have v1 : (((wipe σ [1, 2]).set 1 (some (V.str s))).set 2 (some y))[1]? = some (some (V.str s)) := by
          rw [List.getElem?_set_ne (by decide), List.getElem?_set_self (by omega)]
        have v2 : (((wipe σ [1, 2]).set 1 (some (V.str s))).set 2 (some y))[2]? = some (some y) := by
          rw [List.getElem?_set_self (by simpa using l2)]
        have ft := filT_take w _ _ i s ty es ety
        have c13 := c2.trans cT
        refine g_test (g_op (g_var v1 (g_c (g_eq rfl ⟨_, rfl, ?_⟩))))
        by_cases e : s = w
        · subst e
          rw [if_pos (by simp)]
          refine g_var v2 ?_
          have eD3 := cT.up _ _ eD (by simp)
          have c4 : Ch K [] H1 (upd H3 D (.lst (us' ++ [y]))) := Ch.wrN c13 nD eD3 rfl
          have k4 : Kt K H3 (upd H3 D (.lst (us' ++ [y]))) := (Ch.wrL (S := [D]) eD3 (by simp)).kt
          refine ⟨us', eD3, ?_, c4, _, upd_same, ?_⟩
          · have l1 := r2.len
            have l2 := filT_le s ((plT t).take i) ((restT t).take i)
            rw [List.length_take] at l2
            exact szlt (by omega)
          · rw [ft, if_pos rfl]
            exact (r2.kt (cT.kt.trans k4)).append (.cons (ry.kt c4.kt) .nil)
        · rw [if_neg (by simpa using e)]
          refine ⟨c13, us', cT.up _ _ eD (by simp), ?_⟩
          rw [ft, if_neg e, List.append_nil]
          exact r2.kt cT.kt
  · rintro H2 ⟨c2, us', eD, r2⟩
    refine q H2 (c.trans c2) ⟨us', eD, ?_⟩
    have l1 : ((plT t).map V.str).length = (plT t).length := List.length_map ..
    have l2 := plT_len t
    rw [List.take_of_length_le (by omega), List.take_of_length_le (by omega)] at r2
    exact r2
theorem g_zipA {ta : TA} {σ : L2.St} {H : Hp} {R : It → Hp → Prop} (h : ta σ H fun vs H1 => ∃ a b xs ys, vs = [.ref a, .ref b] ∧ ((SqL K H1 a xs ∧ SqL K H1 b ys ∧ R (Itz K a b) H1) ∨ (SqT K H1 a xs ∧ SqT K H1 b ys ∧ R (RZ.ItzT K a b) H1))) : RZ.iZipA K ta σ H R := h
theorem fn_bodies (C : Cn w K mg base) : Fn P w K mg base CX0 2 "bodies_of" ["thing"] (spBodies K) := C.f_bodies_of fun fd F => by
  have F_places_behind : Fn P w K mg base CX0 1 "places_behind" ["word"] (spPlaces K) := fn_places C
  refine F.ok (CX := CX0) sc_bodies_of (fun vs H Q E h => ?_) (fun cdv A outer s H vs Q E hr h => ?_)
  · obtain ⟨v, t, rfl, _⟩ := h
    rfl
  · obtain ⟨v, t, rfl, rep, q⟩ := h
    refine ⟨_, PSs.nox (pss_one (ps_ret (pe_lc (own := [("place", 1), ("item", 2)]) (g := (gTup K 2 (gCons (gName 1) (gCons (gName 2) gNil)))) rfl sc_bodies_of.nd (RZ.pi_zipA (by rfl) (C.m_zip) (pa_cons (pe_fn F_places_behind (rmm hr) (by rfl) pass0 (pa_cons (pe_ix ix_tup (pv 0) pe_int (fun _ _ => rfl)) pa_nil)) (pa_cons (pe_slice sl_tupR (pv 0) (po_some pe_int) po_none) pa_nil))) (blkOk_by (own := [("place", 1), ("item", 2)]) (N := ["thing", "place", "item"]) (sc := defScope s_bodies_of) (by decide +kernel)) (fun _ _ _ _ _ => (pg_tup rfl (pgs_cons (pg_name (i := 1) sc_bodies_of.nd rfl (Or.inl rfl) (Or.inr rfl)) (pgs_cons (pg_name (i := 2) sc_bodies_of.nd rfl (Or.inl rfl) (Or.inr rfl)) pgs_nil)))) (fun _ _ _ _ _ => pts_one (pt_cmpR op_eq (pv 1) pe_str (nomark _))) (fun _ _ _ _ _ => (pv 2))))), ?_⟩
    have rep0 := rep
    rw [encT_eq] at rep
    obtain ⟨a, us, rfl, hS, rs⟩ := thing1 rep0
    have h0 := atI_nat (j := 0) (List.getElem?_cons_zero (a := V.str (wdT t)) (l := us))
    walk_at "go"
    refine g_zipA ?_
    walk_at "g"
    refine ⟨t, rfl, fun pa hpl => ?_⟩
    walk_at "g"
    refine ⟨_, (show Rep K H (.ref a) (.tup (.str (wdT t) :: restT t)) from by rw [← encT_eq]; exact rep0), fun v1 H1 c1 r1 => ?_⟩
    rw [show (some (1 : Int)) = some ((1 : Nat) : Int) from rfl, cutT_from] at r1
    obtain ⟨b, ub, rfl, hb, rb⟩ := r1.tupI
    walk_at "g"
    refine ⟨pa, b, _, _, rfl, .inr ⟨hpl H1, hb, fun D nD => ?_⟩⟩
    refine lc_fil (w := "body") (fun _ _ => rfl) (Nat.lt_succ_self 2) c1 nD (hpl H1) hb rb fun H2 c2 ⟨us', eD, r2⟩ => ?_
    rw [fil_bodies] at r2
    exact q H2 D us' c2 (c1.free nD (by simp)) eD r2
theorem fn_parts (C : Cn w K mg base) : Fn P w K mg base CX0 2 "parts_of" ["thing"] (spInner K) := C.f_parts_of fun fd F => by
  have F_places_behind : Fn P w K mg base CX0 1 "places_behind" ["word"] (spPlaces K) := fn_places C
  refine F.ok (CX := CX0) sc_parts_of (fun vs H Q E h => ?_) (fun cdv A outer s H vs Q E hr h => ?_)
  · obtain ⟨v, t, rfl, _⟩ := h
    rfl
  · obtain ⟨v, t, rfl, rep, q⟩ := h
    refine ⟨_, PSs.nox (pss_cons (ps_if (pt_cmpR op_eq (pe_ix ix_tup (pv 0) pe_int (fun _ _ => rfl)) pe_str (nomark _)) (pss_one (ps_ret (pe_callTy call_list_of (by rfl) (C.m_list) (by decide +kernel) (pa_cons (pe_ix ix_tup (pv 0) pe_int (fun _ _ => rfl)) pa_nil)))) pss_nil)
      (pss_one (ps_ret (pe_lc (own := [("place", 1), ("item", 2)]) (g := (gTup K 2 (gCons (gName 1) (gCons (gName 2) gNil)))) rfl sc_parts_of.nd (RZ.pi_zipA (by rfl) (C.m_zip) (pa_cons (pe_fn F_places_behind (rmm hr) (by rfl) pass0 (pa_cons (pe_ix ix_tup (pv 0) pe_int (fun _ _ => rfl)) pa_nil)) (pa_cons (pe_slice sl_tupR (pv 0) (po_some pe_int) po_none) pa_nil))) (blkOk_by (own := [("place", 1), ("item", 2)]) (N := ["thing", "place", "item"]) (sc := defScope s_parts_of) (by decide +kernel)) (fun _ _ _ _ _ => (pg_tup rfl (pgs_cons (pg_name (i := 1) sc_parts_of.nd rfl (Or.inl rfl) (Or.inr rfl)) (pgs_cons (pg_name (i := 2) sc_parts_of.nd rfl (Or.inl rfl) (Or.inr rfl)) pgs_nil)))) (fun _ _ _ _ _ => pts_one (pt_cmpR op_eq (pv 1) pe_str (nomark _))) (fun _ _ _ _ _ => (pv 2)))))), ?_⟩
    have rep0 := rep
    rw [encT_eq] at rep
    obtain ⟨a, us, rfl, hS, rs⟩ := thing1 rep0
    have h0 := atI_nat (j := 0) (List.getElem?_cons_zero (a := V.str (wdT t)) (l := us))
    walk_at "go"
    refine iteB (fun h => ?_) (fun h => ?_)
    · obtain ⟨f, ps, rfl⟩ : ∃ f ps, t = .p (.call f ps) := by
        cases t with
        | p p => cases p with
          | call f ps => exact ⟨f, ps, rfl⟩
          | _ => rw [wd_call (by trivial)] at h; cases h
        | d d => rw [wd_call (by trivial)] at h; cases h
      obtain ⟨v1, vs2, rfl, _, rs2⟩ := rs.consI
      obtain ⟨v2, vs3, rfl, r2, rs3⟩ := rs2.consI
      obtain rfl := rs3.nilI
      obtain ⟨b, us, rfl, hb, rus⟩ := r2.tupI
      walk_at "g"
      refine fun l nl => ?_
      exact q _ _ us (Ch.new nl) nl upd_same (rus.kt (Ch.new (S := []) nl).kt)
    · have hn : notCall t := by
        cases t with
        | p p => cases p with
          | call f ps => cases h
          | _ => trivial
        | d d => trivial
      walk_at "g"
      refine g_zipA ?_
      walk_at "g"
      refine ⟨t, rfl, fun pa hpl => ?_⟩
      walk_at "g"
      refine ⟨_, (show Rep K H (.ref a) (.tup (.str (wdT t) :: restT t)) from by rw [← encT_eq]; exact rep0), fun v1 H1 c1 r1 => ?_⟩
      rw [show (some (1 : Int)) = some ((1 : Nat) : Int) from rfl, cutT_from] at r1
      obtain ⟨b, ub, rfl, hb, rb⟩ := r1.tupI
      walk_at "g"
      refine ⟨pa, b, _, _, rfl, .inr ⟨hpl H1, hb, fun D nD => ?_⟩⟩
      refine lc_fil (w := "part") (fun _ _ => rfl) (Nat.lt_succ_self 2) c1 nD (hpl H1) hb rb fun H2 c2 ⟨us', eD, r2⟩ => ?_
      rw [fil_parts hn] at r2
      exact q H2 D us' c2 (c1.free nD (by simp)) eD r2
end
end K3
end

section
set_option maxRecDepth 100000
set_option maxHeartbeats 1000000
open Bq L2
/-- one step of a reading; what is left are side goals and places to think -/
local macro_rules | `(tactic| walk_at "g1") => `(tactic| first
  | with_reducible refine' g_seq ?_ | with_reducible refine' g_asg ?_ | with_reducible refine' g_drop ?_ | with_reducible refine' g_ret ?_ | with_reducible refine' g_ifS ?_ | with_reducible refine' g_asgG ?_
  | ((with_reducible refine' g_var ?hv ?_); (case hv => rfl))
  | with_reducible refine' g_c ?_ | with_reducible refine' g_op ?_ | with_reducible refine' g_un ?_ | with_reducible refine' g_I0 ?_ | with_reducible refine' g_U ?_
  | with_reducible refine' g_test ?_ | with_reducible refine' g_tB ?_ | with_reducible refine Exists.intro _ (And.intro rfl ?_) 
  | ((with_reducible refine' g_andP ?ha ?hb ?_); (case ha => intro R q; walk_at "g"; exact q); (case hb => intro R q; walk_at "g"; exact q))
  | ((with_reducible refine' g_orP ?ha ?hb ?_); (case ha => intro R q; walk_at "g"; exact q); (case hb => intro R q; walk_at "g"; exact q))
  | with_reducible refine' g_and ?_ | with_reducible refine' g_or ?_ | with_reducible refine' g_not ?_
  | with_reducible refine' g_andV ?_ | with_reducible refine' g_orV ?_ | with_reducible refine' g_notV ?_ | with_reducible refine' g_if ?_ | with_reducible refine' g_nil ?_ | with_reducible refine' g_cons ?_
  | with_reducible refine' g_tup ?_ | with_reducible refine' g_lst ?_ | with_reducible refine' g_CB ?_ | with_reducible refine' g_Fn ?_ | with_reducible refine' g_next ?_ | with_reducible refine' g_retN ?_
  | with_reducible refine' g_name ?_ | with_reducible refine' g_sub ?_
  | ((with_reducible refine' g_ixL ?hs ?he ?_); (case hs => walk_at "lk"); (case he => walk_at "at"))
  | ((with_reducible refine' g_ixT ?hs ?he ?_); (case hs => walk_at "lk"); (case he => walk_at "at"))
  | ((with_reducible refine' g_setL ?hs ?he ?_); (case hs => walk_at "hp"); (case he => rfl))
  | ((with_reducible refine' g_app ?hs ?hz ?_); (case hs => walk_at "hp"); (case hz => walk_at "sz"))
  | ((with_reducible refine' ⟨_, _, rfl, Or.inl ?hs, ?_⟩); (case hs => walk_at "lk"))
  | ((with_reducible refine' ⟨_, _, rfl, Or.inr ?hs, ?_⟩); (case hs => walk_at "lk"))
  | with_reducible refine' g_BM ?_ | with_reducible refine' g_BM0 ?_ | ((with_reducible refine' g_tyL ?hs ?_); (case hs => walk_at "lk"))
  | with_reducible refine' g_sl ?_ | with_reducible refine' g_noPart ?_ | with_reducible refine' g_part ?_
  | ((with_reducible refine' g_inT ?hs ?fx ?fs ?_); (case hs => walk_at "lk"); (case fx => rfl); (case fs => rfl))
  | with_reducible refine' g_pair ?_ | with_reducible refine' g_pair0 ?_ | with_reducible refine' g_disp ?_
  | with_reducible refine' g_for ?_ | with_reducible refine' g_tupC ?_ | with_reducible refine' g_lstC ?_ | ((with_reducible refine' g_lens ?_)) | with_reducible refine' g_dg ?_ | with_reducible refine' g_lc ?_ | with_reducible refine' g_rng1 ?_ | with_reducible refine' g_ilist ?_ | with_reducible refine' g_itup ?_
  | ((with_reducible refine' ⟨_, _, rfl, ?hd, ?_⟩); (case hd => walk_at "dg"))
  | ((with_reducible refine' g_eqNil ?hs ?hz ?_); (case hs => walk_at "lk"); (case hz => walk_at "lk"))
  | ((with_reducible refine' g_neNil ?hs ?hz ?_); (case hs => walk_at "lk"); (case hz => walk_at "lk"))
  | with_reducible refine Or.inl ⟨_, rfl, ?_⟩
  | with_reducible refine Or.inr ⟨_, rfl, ?_⟩
  | ((with_reducible refine' g_eq ?hs ?_); (case hs => rfl))
  | ((with_reducible refine' g_ne ?hs ?_); (case hs => rfl))
  | ((with_reducible refine' g_I ?hc ?_); (case hc => walk_at "ar")))
/-- arithmetic's side conditions -/
local macro_rules | `(tactic| walk_at "ar") => `(tactic| (first
  | (show (0 : Int) < _; first | omega | decide) | (show (0 : Int) < _ ∧ _; constructor <;> omega) | (show ¬ (_ : Int) = _; omega) | (show (_ : Int) ≠ _ ∧ _; constructor <;> omega)
  | (show (-(2 ^ 64) < _ ∧ _) ∨ _; (first | (left; constructor <;> omega) | (right; constructor <;> omega))) | (show (0 : Int) ≤ _ ∧ _ ∧ _; refine ⟨by omega, by omega, by decide⟩)))
/-- what stands at an index -/
local macro_rules | `(tactic| walk_at "at") => `(tactic| first | rfl | assumption)
/-- what stands at an address -/
local macro_rules | `(tactic| walk_at "hp") => `(tactic| first | assumption | exact upd_same | ((refine' Eq.trans (upd_ne ?hn) ?hm); (case hm => walk_at "hp"); (case hn => walk_at "ne")))
/-- two places are two -/
local macro_rules | `(tactic| walk_at "ne") => `(tactic| first
  | assumption | exact Ne.symm (by assumption)
  | ((refine' ne_of_none ?ha ?hb); (case hb => assumption); (case ha => walk_at "hp")) | ((refine' Ne.symm (ne_of_none ?ha ?hb)); (case hb => assumption); (case ha => walk_at "hp")))
/-- what a dict tells -/
local macro_rules | `(tactic| walk_at "dg") => `(tactic| first | assumption)
/-- a length -/
local macro_rules | `(tactic| walk_at "sz") => `(tactic| first | (show _ ≤ sizeLine; decide) | (show _ < sizeLine; decide) | assumption | exact szlt (by simp) | exact szle (by simp))
/-- a list or tuple that stands -/
local macro_rules | `(tactic| walk_at "lk") => `(tactic| first | assumption | exact SqL.of (by assumption) | exact SqT.of (by assumption) | exact SqL.of upd_same | exact SqT.of upd_same | (refine' FzL.sq ?hm; (case hm => walk_at "fz")))
/-- a list that nobody writes -/
local macro_rules | `(tactic| walk_at "fz") => `(tactic| first | assumption | ((refine' FzL.uw ?hm ?hx); (case hx => walk_at "hp"); (case hm => walk_at "fz")) | ((refine' FzL.nw ?hm ?hx); (case hx => assumption); (case hm => walk_at "fz")))
/-- as far as it goes by itself -/
local macro_rules | `(tactic| walk_at "g") => `(tactic| repeat walk_at "g1")
/-- the body's reading, its places in short -/
local macro_rules | `(tactic| walk_at "go") => `(tactic| ((try dsimp only [cxOf, Cx.nox, Cx.wish]); walk_at "g"))
namespace K3
open PySem PySem.Spec PyProof.Rows L2 Bq
section
variable {P : Program} {w : World} {K : PySem.W.Frag} {mg : Str → Option Value} {base : Heap}
/-- further steps: dicts written, tuples taken apart -/
local macro_rules | `(tactic| walk_at "g1") => `(tactic| first
  | with_reducible refine' g_sdput ?_
  | ((with_reducible refine' g_gtup ?hs ?hl ?_); (case hs => walk_at "lk"); (case hl => rfl))
  | with_reducible refine' g_gcons ?_
  | with_reducible refine' g_gnil ?_
  | with_reducible refine' And.intro (Eq.refl V.non) ?_
  | with_reducible refine' g_isN ?_
  | ((with_reducible refine' g_chainR ?ha ?hb ?hc ?_); (case ha => intro R q; walk_at "g"; exact q); (case hb => intro R q; walk_at "g"; exact q); (case hc => intro R q; walk_at "g"; exact q))
  | with_reducible refine' g_notN ?_)
/-- what the law's dict tells -/
local macro_rules | `(tactic| walk_at "dg") => `(tactic| first
  | assumption
  | exact LH.gfuns (by assumption)
  | exact LH.gsaid (by assumption)
  | exact LH.gcells (by assumption)
  | exact LH.gfuel (by assumption)
  | exact LH.gend (by assumption)
  | exact LH.gcalls (by assumption)
  | exact LH.gnames (by assumption)
  | exact LH.gwaits (by assumption)
  | exact LH.gworth (by assumption)
  | exact LH.glook (by assumption))
/-- a test that fails, that holds, by itself -/
local macro_rules | `(tactic| walk_at "no") => `(tactic| ((refine tkF rfl ?_); walk_at "g"))
local macro_rules | `(tactic| walk_at "yes") => `(tactic| ((refine tkT rfl ?_); walk_at "g"))
local macro_rules | `(tactic| walk_at "g1") => `(tactic| first
  | with_reducible refine' g_catS ?_
  | with_reducible refine' g_mulS ?_
  | with_reducible refine' g_rev ?_)
/-! ### the looks at a thing -/
/-- what params tells: for each fun how many, or None for each -/
def OkP (xs : List V) (ps : List Nat) : Prop := xs = (ps.map fun n => V.int (n : Nat)) ∨ (xs = List.replicate ps.length V.non ∧ ∀ n ∈ ps, n ≤ 4)
theorem OkP.len {xs : List V} {ps : List Nat} (h : OkP xs ps) : xs.length = ps.length := by
  rcases h with rfl | ⟨rfl, _⟩ <;> simp
def spTakes (K : PySem.W.Frag) : Sp := fun vs H Q _ => ∃ f m pl, ∃ (xs : List V) (ps : List Nat), vs = [.int (f : Nat), .int (m : Nat), .ref pl] ∧ H pl = some (.lst xs) ∧ OkP xs ps ∧ ps[f]? = some m ∧ Q (.bl true) H
theorem fn_takes (C : Cn w K mg base) : Fn P w K mg base CX0 1 "takes" ["fun", "many", "params"] (spTakes K) := C.f_takes fun fd F => by
  refine F.ok (CX := CX0) sc_takes (fun vs H Q E h => ?_) (fun cdv A outer s H vs Q E hr h => ?_)
  · obtain ⟨f, m, pl, xs, ps, rfl, _⟩ := h
    rfl
  · obtain ⟨f, m, pl, xs, ps, rfl, hpl, okp, hf, q⟩ := h
    refine ⟨_, PSs.nox (pss_cons (ps_if (pt_cmpR op_isN (pe_ix ix_list (pv 2) (pv 0) (fun _ _ => rfl)) pe_non (nomark _)) (pss_one (ps_ret (pe_cmpR op_le (pv 1) (pe_iglob (by rfl) C.i_MOST_PARAMS) (nomark _)))) pss_nil)
      (pss_one (ps_ret (pe_cmpR op_eq (pe_ix ix_list (pv 2) (pv 0) (fun _ _ => rfl)) (pv 1) (nomark _))))), ?_⟩
    rcases okp with rfl | ⟨rfl, p4⟩
    · have hat : atI (ps.map fun n => V.int (n : Nat)) ((f : Nat) : Int) = some (.int (m : Nat)) := atI_nat (by rw [List.getElem?_map, hf]; rfl)
      walk_at "go"
      walk_at "no"
      rw [show decide (V.int (m : Nat) = V.int (m : Nat)) = true from decide_eq_true rfl]
      exact q
    · have hlt := (List.getElem?_eq_some_iff.mp hf).1
      have m4 := p4 m (List.mem_of_getElem? hf)
      have hat : atI (List.replicate ps.length V.non) ((f : Nat) : Int) = some .non := atI_nat (by rw [List.getElem?_replicate, if_pos hlt])
      walk_at "go"
      walk_at "yes"
      rw [show decide ((m : Int) ≤ 4) = true from decide_eq_true (by omega)]
      exact q
def spBound (K : PySem.W.Frag) : Sp := fun vs H Q _ => ∃ a r x : Int, vs = [.int a, .int r, .int x] ∧ a < 200 ∧ r ≤ 7 ∧ x ≤ 40 ∧ Q (.str "") H
theorem fn_bound (C : Cn w K mg base) : Fn P w K mg base CX0 1 "bound_flaw" ["at", "around", "wide"] (spBound K) := C.f_bound_flaw fun fd F => by
  refine F.ok (CX := CX0) sc_bound_flaw (fun vs H Q E h => ?_) (fun cdv A outer s H vs Q E hr h => ?_)
  · obtain ⟨a, r, x, rfl, _⟩ := h
    rfl
  · obtain ⟨a, r, x, rfl, h1, h2, h3, q⟩ := h
    refine ⟨_, PSs.nox (pss_cons (ps_if (pt_cmpR op_ge (pv 0) (pe_iglob (by rfl) C.i_MOST_THINGS) (nomark _)) (pss_one (ps_ret pe_str)) pss_nil)
      (pss_cons (ps_if (pt_cmpR op_gt (pv 1) (pe_iglob (by rfl) C.i_MOST_DEEDS_AROUND) (nomark _)) (pss_one (ps_ret pe_str)) pss_nil)
      (pss_cons (ps_if (pt_cmpR op_gt (pv 2) (pe_iglob (by rfl) C.i_MOST_PARTS) (nomark _)) (pss_one (ps_ret pe_str)) pss_nil)
      (pss_one (ps_ret pe_str))))), ?_⟩
    walk_at "go"
    refine tkF (decide_eq_false (by omega)) ?_
    walk_at "g"
    refine tkF (decide_eq_false (by omega)) ?_
    walk_at "g"
    refine tkF (decide_eq_false (by omega)) ?_
    walk_at "g"
    exact q
/-- what may stand at a place -/
def okAt (nm : Nat) (n : Nat) (s : Str) (t : T) : Prop :=
  (s = "n" → ∃ z, t = .int z ∧ -1000000 ≤ z ∧ z ≤ 1000000) ∧ (s = "name" → ∃ z : Nat, t = .int z ∧ z < nm) ∧ (s = "fun" → ∃ z : Nat, t = .int z ∧ z < n) ∧ ((s = "body" ∨ s = "parts") → ∃ ts, t = .tup ts) ∧ (s = "n" ∨ s = "name" ∨ s = "fun" ∨ s = "body" ∨ s = "parts" ∨ s = "part")
/-- a thing's own numbers -/
def ownOk (nm : Nat) (ps : List Nat) : Th → Prop
  | .p (.num n) => -1000000 ≤ n ∧ n ≤ 1000000
  | .p (.name i) => i < nm
  | .p (.call f qs) => ps[f]? = some qs.length
  | .d (.set i _) => i < nm
  | _ => True
theorem ok_at {nm : Nat} {ps : List Nat} {t : Th} (h : ownOk nm ps t) {i : Nat} {s : Str} {u : T} (hs : (plT t)[i]? = some s) (hu : (restT t)[i]? = some u) : okAt nm ps.length s u := by
  have hp : ∀ u, okAt nm ps.length "part" u := fun u => ⟨fun z => absurd z (by decide +kernel), fun z => absurd z (by decide +kernel), fun z => absurd z (by decide +kernel), fun z => z.elim (fun z => absurd z (by decide +kernel)) (fun z => absurd z (by decide +kernel)), by simp⟩
  have hb : ∀ ts, okAt nm ps.length "body" (.tup ts) := fun ts => ⟨fun z => absurd z (by decide +kernel), fun z => absurd z (by decide +kernel), fun z => absurd z (by decide +kernel), fun _ => ⟨ts, rfl⟩, by simp⟩
  have hq : ∀ ts, okAt nm ps.length "parts" (.tup ts) := fun ts => ⟨fun z => absurd z (by decide +kernel), fun z => absurd z (by decide +kernel), fun z => absurd z (by decide +kernel), fun _ => ⟨ts, rfl⟩, by simp⟩
  have hn : ∀ z : Int, -1000000 ≤ z → z ≤ 1000000 → okAt nm ps.length "n" (.int z) := fun z a b => ⟨fun _ => ⟨z, rfl, a, b⟩, fun z => absurd z (by decide +kernel), fun z => absurd z (by decide +kernel), fun z => z.elim (fun z => absurd z (by decide +kernel)) (fun z => absurd z (by decide +kernel)), by simp⟩
  have hm : ∀ z : Nat, z < nm → okAt nm ps.length "name" (.int z) := fun z a => ⟨fun z => absurd z (by decide +kernel), fun _ => ⟨z, rfl, a⟩, fun z => absurd z (by decide +kernel), fun z => z.elim (fun z => absurd z (by decide +kernel)) (fun z => absurd z (by decide +kernel)), by simp⟩
  have hf : ∀ z : Nat, z < ps.length → okAt nm ps.length "fun" (.int z) := fun z a => ⟨fun z => absurd z (by decide +kernel), fun z => absurd z (by decide +kernel), fun _ => ⟨z, rfl, a⟩, fun z => z.elim (fun z => absurd z (by decide +kernel)) (fun z => absurd z (by decide +kernel)), by simp⟩
  have hlt : ∀ {f : Nat} {n : Nat}, ps[f]? = some n → f < ps.length := fun h => (List.getElem?_eq_some_iff.mp h).1
  match i with
  | 0 =>
    cases t with
    | p p => cases p with
      | num n => cases hs; cases hu; exact hn _ h.1 h.2
      | name n => cases hs; cases hu; exact hm _ h
      | call f qs => cases hs; cases hu; exact hf _ (hlt h)
      | _ => cases hs; cases hu; exact hp _
    | d d => cases d with
      | set i p => cases hs; cases hu; exact hm _ h
      | _ => cases hs; cases hu; exact hp _
  | 1 =>
    cases t with
    | p p => cases p with
      | bin op a b => cases hs; cases hu; exact hp _
      | call f qs => cases hs; cases hu; exact hq _
      | _ => cases hs
    | d d => cases d with
      | set i p => cases hs; cases hu; exact hp _
      | put i p => cases hs; cases hu; exact hp _
      | ite p a b => cases hs; cases hu; exact hb _
      | whl p a => cases hs; cases hu; exact hb _
      | _ => cases hs
  | 2 =>
    cases t with
    | p p => cases p <;> cases hs
    | d d => cases d with
      | ite p a b => cases hs; cases hu; exact hb _
      | _ => cases hs
  | n + 3 =>
    have h1 := (List.getElem?_eq_some_iff.mp hs).1
    have h2 := plT_le t
    omega
end
end K3
end

section
set_option maxRecDepth 100000
set_option maxHeartbeats 1000000
open Bq L2
/-- one step of a reading; what is left are side goals and places to think -/
local macro_rules | `(tactic| walk_at "g1") => `(tactic| first
  | with_reducible refine' g_seq ?_ | with_reducible refine' g_asg ?_ | with_reducible refine' g_drop ?_ | with_reducible refine' g_ret ?_ | with_reducible refine' g_ifS ?_ | with_reducible refine' g_asgG ?_
  | ((with_reducible refine' g_var ?hv ?_); (case hv => rfl))
  | with_reducible refine' g_c ?_ | with_reducible refine' g_op ?_ | with_reducible refine' g_un ?_ | with_reducible refine' g_I0 ?_ | with_reducible refine' g_U ?_
  | with_reducible refine' g_test ?_ | with_reducible refine' g_tB ?_ | with_reducible refine Exists.intro _ (And.intro rfl ?_) 
  | ((with_reducible refine' g_andP ?ha ?hb ?_); (case ha => intro R q; walk_at "g"; exact q); (case hb => intro R q; walk_at "g"; exact q))
  | ((with_reducible refine' g_orP ?ha ?hb ?_); (case ha => intro R q; walk_at "g"; exact q); (case hb => intro R q; walk_at "g"; exact q))
  | with_reducible refine' g_and ?_ | with_reducible refine' g_or ?_ | with_reducible refine' g_not ?_
  | with_reducible refine' g_andV ?_ | with_reducible refine' g_orV ?_ | with_reducible refine' g_notV ?_ | with_reducible refine' g_if ?_ | with_reducible refine' g_nil ?_ | with_reducible refine' g_cons ?_
  | with_reducible refine' g_tup ?_ | with_reducible refine' g_lst ?_ | with_reducible refine' g_CB ?_ | with_reducible refine' g_Fn ?_ | with_reducible refine' g_next ?_ | with_reducible refine' g_retN ?_
  | with_reducible refine' g_name ?_ | with_reducible refine' g_sub ?_
  | ((with_reducible refine' g_ixL ?hs ?he ?_); (case hs => walk_at "lk"); (case he => walk_at "at"))
  | ((with_reducible refine' g_ixT ?hs ?he ?_); (case hs => walk_at "lk"); (case he => walk_at "at"))
  | ((with_reducible refine' g_setL ?hs ?he ?_); (case hs => walk_at "hp"); (case he => rfl))
  | ((with_reducible refine' g_app ?hs ?hz ?_); (case hs => walk_at "hp"); (case hz => walk_at "sz"))
  | ((with_reducible refine' ⟨_, _, rfl, Or.inl ?hs, ?_⟩); (case hs => walk_at "lk"))
  | ((with_reducible refine' ⟨_, _, rfl, Or.inr ?hs, ?_⟩); (case hs => walk_at "lk"))
  | with_reducible refine' g_BM ?_ | with_reducible refine' g_BM0 ?_ | ((with_reducible refine' g_tyL ?hs ?_); (case hs => walk_at "lk"))
  | with_reducible refine' g_sl ?_ | with_reducible refine' g_noPart ?_ | with_reducible refine' g_part ?_
  | ((with_reducible refine' g_inT ?hs ?fx ?fs ?_); (case hs => walk_at "lk"); (case fx => rfl); (case fs => rfl))
  | with_reducible refine' g_pair ?_ | with_reducible refine' g_pair0 ?_ | with_reducible refine' g_disp ?_
  | with_reducible refine' g_for ?_ | with_reducible refine' g_tupC ?_ | with_reducible refine' g_lstC ?_ | ((with_reducible refine' g_lens ?_)) | with_reducible refine' g_dg ?_ | with_reducible refine' g_lc ?_ | with_reducible refine' g_rng1 ?_ | with_reducible refine' g_ilist ?_ | with_reducible refine' g_itup ?_
  | ((with_reducible refine' ⟨_, _, rfl, ?hd, ?_⟩); (case hd => walk_at "dg"))
  | ((with_reducible refine' g_eqNil ?hs ?hz ?_); (case hs => walk_at "lk"); (case hz => walk_at "lk"))
  | ((with_reducible refine' g_neNil ?hs ?hz ?_); (case hs => walk_at "lk"); (case hz => walk_at "lk"))
  | with_reducible refine Or.inl ⟨_, rfl, ?_⟩
  | with_reducible refine Or.inr ⟨_, rfl, ?_⟩
  | ((with_reducible refine' g_eq ?hs ?_); (case hs => rfl))
  | ((with_reducible refine' g_ne ?hs ?_); (case hs => rfl))
  | ((with_reducible refine' g_I ?hc ?_); (case hc => walk_at "ar")))
/-- arithmetic's side conditions -/
local macro_rules | `(tactic| walk_at "ar") => `(tactic| (first
  | (show (0 : Int) < _; first | omega | decide) | (show (0 : Int) < _ ∧ _; constructor <;> omega) | (show ¬ (_ : Int) = _; omega) | (show (_ : Int) ≠ _ ∧ _; constructor <;> omega)
  | (show (-(2 ^ 64) < _ ∧ _) ∨ _; (first | (left; constructor <;> omega) | (right; constructor <;> omega))) | (show (0 : Int) ≤ _ ∧ _ ∧ _; refine ⟨by omega, by omega, by decide⟩)))
/-- what stands at an index -/
local macro_rules | `(tactic| walk_at "at") => `(tactic| first | rfl | assumption)
/-- what stands at an address -/
local macro_rules | `(tactic| walk_at "hp") => `(tactic| first | assumption | exact upd_same | ((refine' Eq.trans (upd_ne ?hn) ?hm); (case hm => walk_at "hp"); (case hn => walk_at "ne")))
/-- two places are two -/
local macro_rules | `(tactic| walk_at "ne") => `(tactic| first
  | assumption | exact Ne.symm (by assumption)
  | ((refine' ne_of_none ?ha ?hb); (case hb => assumption); (case ha => walk_at "hp")) | ((refine' Ne.symm (ne_of_none ?ha ?hb)); (case hb => assumption); (case ha => walk_at "hp")))
/-- what a dict tells -/
local macro_rules | `(tactic| walk_at "dg") => `(tactic| first | assumption)
/-- a length -/
local macro_rules | `(tactic| walk_at "sz") => `(tactic| first | (show _ ≤ sizeLine; decide) | (show _ < sizeLine; decide) | assumption | exact szlt (by simp) | exact szle (by simp))
/-- a list or tuple that stands -/
local macro_rules | `(tactic| walk_at "lk") => `(tactic| first | assumption | exact SqL.of (by assumption) | exact SqT.of (by assumption) | exact SqL.of upd_same | exact SqT.of upd_same | (refine' FzL.sq ?hm; (case hm => walk_at "fz")))
/-- a list that nobody writes -/
local macro_rules | `(tactic| walk_at "fz") => `(tactic| first | assumption | ((refine' FzL.uw ?hm ?hx); (case hx => walk_at "hp"); (case hm => walk_at "fz")) | ((refine' FzL.nw ?hm ?hx); (case hx => assumption); (case hm => walk_at "fz")))
/-- as far as it goes by itself -/
local macro_rules | `(tactic| walk_at "g") => `(tactic| repeat walk_at "g1")
/-- the body's reading, its places in short -/
local macro_rules | `(tactic| walk_at "go") => `(tactic| ((try dsimp only [cxOf, Cx.nox, Cx.wish]); walk_at "g"))
namespace K3
open PySem PySem.Spec PyProof.Rows L2 Bq
section
variable {P : Program} {w : World} {K : PySem.W.Frag} {mg : Str → Option Value} {base : Heap}
/-- further steps: dicts written, tuples taken apart -/
local macro_rules | `(tactic| walk_at "g1") => `(tactic| first
  | with_reducible refine' g_sdput ?_
  | ((with_reducible refine' g_gtup ?hs ?hl ?_); (case hs => walk_at "lk"); (case hl => rfl))
  | with_reducible refine' g_gcons ?_
  | with_reducible refine' g_gnil ?_
  | with_reducible refine' And.intro (Eq.refl V.non) ?_
  | with_reducible refine' g_isN ?_
  | ((with_reducible refine' g_chainR ?ha ?hb ?hc ?_); (case ha => intro R q; walk_at "g"; exact q); (case hb => intro R q; walk_at "g"; exact q); (case hc => intro R q; walk_at "g"; exact q))
  | with_reducible refine' g_notN ?_)
/-- what the law's dict tells -/
local macro_rules | `(tactic| walk_at "dg") => `(tactic| first
  | assumption
  | exact LH.gfuns (by assumption)
  | exact LH.gsaid (by assumption)
  | exact LH.gcells (by assumption)
  | exact LH.gfuel (by assumption)
  | exact LH.gend (by assumption)
  | exact LH.gcalls (by assumption)
  | exact LH.gnames (by assumption)
  | exact LH.gwaits (by assumption)
  | exact LH.gworth (by assumption)
  | exact LH.glook (by assumption))
/-- a test that fails, that holds, by itself -/
local macro_rules | `(tactic| walk_at "no") => `(tactic| ((refine tkF rfl ?_); walk_at "g"))
local macro_rules | `(tactic| walk_at "yes") => `(tactic| ((refine tkT rfl ?_); walk_at "g"))
local macro_rules | `(tactic| walk_at "g1") => `(tactic| first
  | with_reducible refine' g_catS ?_
  | with_reducible refine' g_mulS ?_
  | with_reducible refine' g_rev ?_)
def isP : Th → Bool
  | .p _ => true
  | .d _ => false
def spShape (K : PySem.W.Frag) : Sp := fun vs H Q _ => ∃ v t nm ps, ∃ r : Int, vs = [v, .int r] ∧ Rep K H v (encT t) ∧ ownOk nm ps t ∧ (isP t = true → r = -1) ∧ (isP t = false → 0 ≤ r) ∧ ∀ H', Ch K [] H H' → Q (.str "") H'
theorem fn_shape (C : Cn w K mg base) : Fn P w K mg base CX0 2 "shape_flaw" ["thing", "around"] (spShape K) := C.f_shape_flaw fun fd F => by
  have F_is_number : Fn P w K mg base CX0 1 "is_number" ["thing"] (spIsNum K) := fn_is_number C
  have F_places_behind : Fn P w K mg base CX0 1 "places_behind" ["word"] (spPlaces K) := fn_places C
  refine F.ok (CX := CX0) sc_shape_flaw (fun vs H Q E h => ?_) (fun cdv A outer s H vs Q E hr h => ?_)
  · obtain ⟨v, t, nm, ps, r, rfl, _⟩ := h
    rfl
  · obtain ⟨v, t, nm, ps, r, rfl, rep0, own, hp, hd, q⟩ := h
    refine ⟨_, PSs.nox (pss_cons (ps_if (pt_mid (PW.pt (pw_or (pt_not (pt_val (pe_callB call_isi (by rfl) (C.m_isinstance) (by decide +kernel) (pa_cons (pv 0) (pa_cons (pe_bty "tuple" (by rfl) (C.m_tuple) (by decide +kernel)) pa_nil))))) (pw_or (pt_cmpR op_eq (pe_callB call_len_seq (by rfl) (C.m_len) PySem.boot_len (pa_cons (pv 0) pa_nil)) pe_int (nomark _)) (pw_or1 (pt_not (pt_val (pe_callB call_isi (by rfl) (C.m_isinstance) (by decide +kernel) (pa_cons (pe_ix ix_tup (pv 0) pe_int (fun _ _ => rfl)) (pa_cons (pe_bty "str" (by rfl) (C.m_str) (by decide +kernel)) pa_nil)))))))))) (pss_one (ps_ret pe_str)) pss_nil)
      (pss_cons (ps_set (i := 2) sc_shape_flaw.nd rfl (Or.inl rfl) (pe_mid (pe_ifExp (pt_cmpR op_eq (pv 1) (pe_iglob (by rfl) C.i_A_PART) (nomark _)) (pe_cmpR (op_in_mod C.k_PARTS) (pe_ix ix_tup (pv 0) pe_int (fun _ _ => rfl)) (pe_glob (v := .ref _) (by rfl) C.g_PARTS rfl) (by rfl)) (pe_cmpR (op_in_mod C.k_DEEDS) (pe_ix ix_tup (pv 0) pe_int (fun _ _ => rfl)) (pe_glob (v := .ref _) (by rfl) C.g_DEEDS rfl) (by rfl)))))
      (Evl.pss_cut (ps_if (PW.pt (pw_or (pt_not (pt_val (pv 2))) (pw_or1 (pt_cmpR op_ne (pe_callB call_len_seq (by rfl) (C.m_len) PySem.boot_len (pa_cons (pv 0) pa_nil)) (pe_op op_add (pe_callB call_len_seq (by rfl) (C.m_len) PySem.boot_len (pa_cons (pe_fn F_places_behind (rmm hr) (by rfl) pass0 (pa_cons (pe_ix ix_tup (pv 0) pe_int (fun _ _ => rfl)) pa_nil)) pa_nil)) pe_int) (nomark _))))) (pss_one (ps_ret pe_str)) pss_nil)
      (pss_cons (ps_for PassesOwn.never rfl (RZ.pi_zipA (by rfl) (C.m_zip) (pa_cons (pe_fn F_places_behind (rmm hr) (by rfl) pass0 (pa_cons (pe_ix ix_tup (pv 0) pe_int (fun _ _ => rfl)) pa_nil)) (pa_cons (pe_slice sl_tupR (pv 0) (po_some pe_int) po_none) pa_nil))) (pg_tup rfl (pgs_cons (pg_name (i := 3) sc_shape_flaw.nd rfl (Or.inl rfl)) (pgs_cons (pg_name (i := 4) sc_shape_flaw.nd rfl (Or.inl rfl)) pgs_nil))) (Evl.pss_cut (ps_if (PW.pt (pw_and (pt_cmpR op_in_seq (pv 3) (pe_glob (v := .ref _) (by rfl) C.g_NUMBER_PLACES rfl) (by rfl)) (pw_and1 (pt_not (pt_val (pe_fn F_is_number (rmm hr) (by rfl) pass0 (pa_cons (pv 4) pa_nil))))))) (pss_one (ps_ret pe_str)) pss_nil)
      (pss_one (ps_if (pt_mid (PW.pt (pw_and (pt_cmpR op_in_seq (pv 3) (pe_glob (v := .ref _) (by rfl) C.g_TUPLE_PLACES rfl) (by rfl)) (pw_and1 (pt_not (pt_val (pe_callB call_isi (by rfl) (C.m_isinstance) (by decide +kernel) (pa_cons (pv 4) (pa_cons (pe_bty "tuple" (by rfl) (C.m_tuple) (by decide +kernel)) pa_nil))))))))) (pss_one (ps_ret pe_str)) pss_nil))))
      (pss_one (ps_ret pe_str)))))), ?_⟩
    have ty := rep0.ty
    have rep := rep0
    rw [encT_eq] at rep
    have tdt := deeds_tab C t
    have tpt := parts_tab C t
    obtain ⟨a, us, rfl, hS, rs⟩ := thing1 rep0
    have h0 := atI_nat (j := 0) (List.getElem?_cons_zero (a := V.str (wdT t)) (l := us))
    have tyw : TyX K H (.str (wdT t)) (.type "str") := Rep.ty (.str (wdT t))
    walk_at "go"
    refine g_mid (fun b H' => b = false ∧ H' = H) ?_ ?_
    · walk_at "g"
      refine g_isi ty (by rw [encT_eq]; exact kit_tuple (.tup _)) ?_
      walk_at "g"
      walk_at "no"
      refine tkF (decide_eq_false (fun z => by simp only [V.int.injEq, List.length_cons] at z; omega)) ?_
      walk_at "g"
      refine g_isi tyw (kit_str (.str (wdT t))) ?_
      walk_at "g"
      exact ⟨rfl, rfl⟩
    · rintro _ H1 ⟨rfl, e1⟩
      rw [e1]
      walk_at "no"
      refine g_midE (fun v' H' => v' = .bl true ∧ H' = H) ?_ ?_
      · walk_at "g"
        cases t with
        | p p =>
          obtain ⟨ta, hta, _⟩ := tpt
          rw [hp rfl]
          walk_at "yes"
          exact ⟨_, _, rfl, rfl, hta, rfl, rfl⟩
        | d d =>
          obtain ⟨ta, hta, _⟩ := tdt
          have := hd rfl
          refine tkF (decide_eq_false (fun z => by simp only [V.int.injEq] at z; omega)) ?_
          walk_at "g"
          exact ⟨_, _, rfl, rfl, hta, rfl, rfl⟩
      · rintro _ H2 ⟨rfl, e2⟩
        rw [e2]
        clear e1 e2 H1 H2
        walk_at "g"
        refine g_cut (Mid := fun σ' H' => σ' = [some (.ref a), some (.int r), some (.bl true), none, none] ∧ H' = H) ?_ ?_
        · walk_at "g"
          walk_at "no"
          refine ⟨t, rfl, fun pa hpl => ?_⟩
          have hpl' := hpl H
          walk_at "g"
          have e3 : (V.str (wdT t) :: us).length = ((plT t).map V.str).length + 1 := by rw [List.length_cons, List.length_map, plT_len, rs.len]
          refine tkF ?_ ?_
          · rw [e3]
            simp
          · walk_at "g"
            exact ⟨rfl, rfl⟩
        · rintro _ _ ⟨rfl, rfl⟩
          walk_at "g"
          refine g_zipA ?_
          walk_at "g"
          refine ⟨t, rfl, fun pa hpl => ?_⟩
          walk_at "g"
          refine ⟨_, rep, fun v1 H1 c1 r1 => ?_⟩
          rw [show (some (1 : Int)) = some ((1 : Nat) : Int) from rfl, cutT_from] at r1
          obtain ⟨b, ub, rfl, hb, rb⟩ := r1.tupI
          walk_at "g"
          refine ⟨pa, b, _, _, rfl, .inr ⟨hpl H1, hb, ?_⟩⟩
          have rb' : Reps K H1 ub (restT t) := rb
          have ll : ((plT t).map V.str).length = ub.length := by rw [List.length_map, plT_len, rb'.len]
          refine RZ.for_zipT ll (fun i σ H' => ∃ x y, σ = [some (.ref a), some (.int r), some (.bl true), x, y] ∧ Ch K [] H1 H') ⟨none, none, rfl, Ch.refl⟩ (fun i σ H' ⟨_, _, _, c⟩ => ⟨hpl H', c.sqT hb⟩) ?_ ?_
          · rintro i x y T σ H2 hx hy ⟨x3, x4, rfl, c2⟩ nT
            rw [List.getElem?_map] at hx
            cases es : (plT t)[i]? with
            | none => rw [es] at hx; cases hx
            | some s =>
              rw [es] at hx
              obtain rfl : V.str s = x := Option.some.inj hx
              obtain ⟨ty, ety, ry⟩ := rb'.get hy
              obtain ⟨o1, o2, o3, o4, o5⟩ := ok_at own es ety
              have cT : Ch K [] H2 (upd H2 T (.tup [.str s, y])) := Ch.new nT
              have eT : (upd H2 T (.tup [.str s, y])) T = some (.tup [.str s, y]) := upd_same
              generalize upd H2 T (.tup [.str s, y]) = H3 at cT eT ⊢
              have ry3 := ry.kt (c2.trans cT).kt
              have hNP := C.t_NUMBER_PLACES H3
              have hTP := C.t_TUPLE_PLACES H3
              walk_at "g"
              refine g_cut (Mid := fun σ' H' => σ' = [some (.ref a), some (.int r), some (.bl true), some (.str s), some y] ∧ H' = H3) ?_ ?_
              · walk_at "g"
                refine iteB (fun hc => ?_) (fun hc => ?_)
                · have hi : ∃ z, ty = .int z := by
                    have : s = "n" ∨ s = "name" ∨ s = "fun" := by
                      rcases o5 with h | h | h | h | h | h
                      · exact .inl h
                      · exact .inr (.inl h)
                      · exact .inr (.inr h)
                      · subst h; cases hc
                      · subst h; cases hc
                      · subst h; cases hc
                    rcases this with h | h | h
                    · obtain ⟨z, e, _⟩ := o1 h; exact ⟨z, e⟩
                    · obtain ⟨z, e, _⟩ := o2 h; exact ⟨_, e⟩
                    · obtain ⟨z, e, _⟩ := o3 h; exact ⟨_, e⟩
                  obtain ⟨z, rfl⟩ := hi
                  walk_at "g"
                  refine ⟨y, .int z, rfl, ry3, ?_⟩
                  walk_at "g"
                  walk_at "no"
                  exact ⟨rfl, rfl⟩
                · walk_at "no"
                  exact ⟨rfl, rfl⟩
              · rintro _ H4 ⟨rfl, e4⟩
                rw [e4]
                clear e4 H4
                walk_at "g"
                refine g_mid (fun b H' => b = false ∧ H' = H3) ?_ ?_
                · walk_at "g"
                  refine iteB (fun hc => ?_) (fun hc => ?_)
                  · have hi : ∃ ts, ty = .tup ts := by
                      refine o4 ?_
                      rcases o5 with h | h | h | h | h | h
                      · subst h; cases hc
                      · subst h; cases hc
                      · subst h; cases hc
                      · exact .inl h
                      · exact .inr h
                      · subst h; cases hc
                    obtain ⟨ts, rfl⟩ := hi
                    walk_at "g"
                    refine g_isi ry3.ty (kit_tuple (.tup ts)) ?_
                    walk_at "g"
                    exact ⟨rfl, rfl⟩
                  · exact ⟨rfl, rfl⟩
                · rintro _ H4 ⟨rfl, e4⟩
                  rw [e4]
                  walk_at "no"
                  exact ⟨_, _, rfl, c2.trans cT⟩
          · rintro σ H2 ⟨x3, x4, rfl, c2⟩
            walk_at "g"
            exact q H2 (c1.trans c2)
end
end K3
end

section
set_option maxRecDepth 100000
set_option maxHeartbeats 1000000
open Bq L2
/-- one step of a reading; what is left are side goals and places to think -/
local macro_rules | `(tactic| walk_at "g1") => `(tactic| first
  | with_reducible refine' g_seq ?_ | with_reducible refine' g_asg ?_ | with_reducible refine' g_drop ?_ | with_reducible refine' g_ret ?_ | with_reducible refine' g_ifS ?_ | with_reducible refine' g_asgG ?_
  | ((with_reducible refine' g_var ?hv ?_); (case hv => rfl))
  | with_reducible refine' g_c ?_ | with_reducible refine' g_op ?_ | with_reducible refine' g_un ?_ | with_reducible refine' g_I0 ?_ | with_reducible refine' g_U ?_
  | with_reducible refine' g_test ?_ | with_reducible refine' g_tB ?_ | with_reducible refine Exists.intro _ (And.intro rfl ?_) 
  | ((with_reducible refine' g_andP ?ha ?hb ?_); (case ha => intro R q; walk_at "g"; exact q); (case hb => intro R q; walk_at "g"; exact q))
  | ((with_reducible refine' g_orP ?ha ?hb ?_); (case ha => intro R q; walk_at "g"; exact q); (case hb => intro R q; walk_at "g"; exact q))
  | with_reducible refine' g_and ?_ | with_reducible refine' g_or ?_ | with_reducible refine' g_not ?_
  | with_reducible refine' g_andV ?_ | with_reducible refine' g_orV ?_ | with_reducible refine' g_notV ?_ | with_reducible refine' g_if ?_ | with_reducible refine' g_nil ?_ | with_reducible refine' g_cons ?_
  | with_reducible refine' g_tup ?_ | with_reducible refine' g_lst ?_ | with_reducible refine' g_CB ?_ | with_reducible refine' g_Fn ?_ | with_reducible refine' g_next ?_ | with_reducible refine' g_retN ?_
  | with_reducible refine' g_name ?_ | with_reducible refine' g_sub ?_
  | ((with_reducible refine' g_ixL ?hs ?he ?_); (case hs => walk_at "lk"); (case he => walk_at "at"))
  | ((with_reducible refine' g_ixT ?hs ?he ?_); (case hs => walk_at "lk"); (case he => walk_at "at"))
  | ((with_reducible refine' g_setL ?hs ?he ?_); (case hs => walk_at "hp"); (case he => rfl))
  | ((with_reducible refine' g_app ?hs ?hz ?_); (case hs => walk_at "hp"); (case hz => walk_at "sz"))
  | ((with_reducible refine' ⟨_, _, rfl, Or.inl ?hs, ?_⟩); (case hs => walk_at "lk"))
  | ((with_reducible refine' ⟨_, _, rfl, Or.inr ?hs, ?_⟩); (case hs => walk_at "lk"))
  | with_reducible refine' g_BM ?_ | with_reducible refine' g_BM0 ?_ | ((with_reducible refine' g_tyL ?hs ?_); (case hs => walk_at "lk"))
  | with_reducible refine' g_sl ?_ | with_reducible refine' g_noPart ?_ | with_reducible refine' g_part ?_
  | ((with_reducible refine' g_inT ?hs ?fx ?fs ?_); (case hs => walk_at "lk"); (case fx => rfl); (case fs => rfl))
  | with_reducible refine' g_pair ?_ | with_reducible refine' g_pair0 ?_ | with_reducible refine' g_disp ?_
  | with_reducible refine' g_for ?_ | with_reducible refine' g_tupC ?_ | with_reducible refine' g_lstC ?_ | ((with_reducible refine' g_lens ?_)) | with_reducible refine' g_dg ?_ | with_reducible refine' g_lc ?_ | with_reducible refine' g_rng1 ?_ | with_reducible refine' g_ilist ?_ | with_reducible refine' g_itup ?_
  | ((with_reducible refine' ⟨_, _, rfl, ?hd, ?_⟩); (case hd => walk_at "dg"))
  | ((with_reducible refine' g_eqNil ?hs ?hz ?_); (case hs => walk_at "lk"); (case hz => walk_at "lk"))
  | ((with_reducible refine' g_neNil ?hs ?hz ?_); (case hs => walk_at "lk"); (case hz => walk_at "lk"))
  | with_reducible refine Or.inl ⟨_, rfl, ?_⟩
  | with_reducible refine Or.inr ⟨_, rfl, ?_⟩
  | ((with_reducible refine' g_eq ?hs ?_); (case hs => rfl))
  | ((with_reducible refine' g_ne ?hs ?_); (case hs => rfl))
  | ((with_reducible refine' g_I ?hc ?_); (case hc => walk_at "ar")))
/-- arithmetic's side conditions -/
local macro_rules | `(tactic| walk_at "ar") => `(tactic| (first
  | (show (0 : Int) < _; first | omega | decide) | (show (0 : Int) < _ ∧ _; constructor <;> omega) | (show ¬ (_ : Int) = _; omega) | (show (_ : Int) ≠ _ ∧ _; constructor <;> omega)
  | (show (-(2 ^ 64) < _ ∧ _) ∨ _; (first | (left; constructor <;> omega) | (right; constructor <;> omega))) | (show (0 : Int) ≤ _ ∧ _ ∧ _; refine ⟨by omega, by omega, by decide⟩)))
/-- what stands at an index -/
local macro_rules | `(tactic| walk_at "at") => `(tactic| first | rfl | assumption)
/-- what stands at an address -/
local macro_rules | `(tactic| walk_at "hp") => `(tactic| first | assumption | exact upd_same | ((refine' Eq.trans (upd_ne ?hn) ?hm); (case hm => walk_at "hp"); (case hn => walk_at "ne")))
/-- two places are two -/
local macro_rules | `(tactic| walk_at "ne") => `(tactic| first
  | assumption | exact Ne.symm (by assumption)
  | ((refine' ne_of_none ?ha ?hb); (case hb => assumption); (case ha => walk_at "hp")) | ((refine' Ne.symm (ne_of_none ?ha ?hb)); (case hb => assumption); (case ha => walk_at "hp")))
/-- what a dict tells -/
local macro_rules | `(tactic| walk_at "dg") => `(tactic| first | assumption)
/-- a length -/
local macro_rules | `(tactic| walk_at "sz") => `(tactic| first | (show _ ≤ sizeLine; decide) | (show _ < sizeLine; decide) | assumption | exact szlt (by simp) | exact szle (by simp))
/-- a list or tuple that stands -/
local macro_rules | `(tactic| walk_at "lk") => `(tactic| first | assumption | exact SqL.of (by assumption) | exact SqT.of (by assumption) | exact SqL.of upd_same | exact SqT.of upd_same | (refine' FzL.sq ?hm; (case hm => walk_at "fz")))
/-- a list that nobody writes -/
local macro_rules | `(tactic| walk_at "fz") => `(tactic| first | assumption | ((refine' FzL.uw ?hm ?hx); (case hx => walk_at "hp"); (case hm => walk_at "fz")) | ((refine' FzL.nw ?hm ?hx); (case hx => assumption); (case hm => walk_at "fz")))
/-- as far as it goes by itself -/
local macro_rules | `(tactic| walk_at "g") => `(tactic| repeat walk_at "g1")
/-- the body's reading, its places in short -/
local macro_rules | `(tactic| walk_at "go") => `(tactic| ((try dsimp only [cxOf, Cx.nox, Cx.wish]); walk_at "g"))
namespace K3
open PySem PySem.Spec PyProof.Rows L2 Bq
section
variable {P : Program} {w : World} {K : PySem.W.Frag} {mg : Str → Option Value} {base : Heap}
/-- further steps: dicts written, tuples taken apart -/
local macro_rules | `(tactic| walk_at "g1") => `(tactic| first
  | with_reducible refine' g_sdput ?_
  | ((with_reducible refine' g_gtup ?hs ?hl ?_); (case hs => walk_at "lk"); (case hl => rfl))
  | with_reducible refine' g_gcons ?_
  | with_reducible refine' g_gnil ?_
  | with_reducible refine' And.intro (Eq.refl V.non) ?_
  | with_reducible refine' g_isN ?_
  | ((with_reducible refine' g_chainR ?ha ?hb ?hc ?_); (case ha => intro R q; walk_at "g"; exact q); (case hb => intro R q; walk_at "g"; exact q); (case hc => intro R q; walk_at "g"; exact q))
  | with_reducible refine' g_notN ?_)
/-- what the law's dict tells -/
local macro_rules | `(tactic| walk_at "dg") => `(tactic| first
  | assumption
  | exact LH.gfuns (by assumption)
  | exact LH.gsaid (by assumption)
  | exact LH.gcells (by assumption)
  | exact LH.gfuel (by assumption)
  | exact LH.gend (by assumption)
  | exact LH.gcalls (by assumption)
  | exact LH.gnames (by assumption)
  | exact LH.gwaits (by assumption)
  | exact LH.gworth (by assumption)
  | exact LH.glook (by assumption))
/-- a test that fails, that holds, by itself -/
local macro_rules | `(tactic| walk_at "no") => `(tactic| ((refine tkF rfl ?_); walk_at "g"))
local macro_rules | `(tactic| walk_at "yes") => `(tactic| ((refine tkT rfl ?_); walk_at "g"))
local macro_rules | `(tactic| walk_at "g1") => `(tactic| first
  | with_reducible refine' g_catS ?_
  | with_reducible refine' g_mulS ?_
  | with_reducible refine' g_rev ?_)
def spNumber (K : PySem.W.Frag) : Sp := fun vs H Q _ => ∃ v t nm pl, ∃ (xs : List V) (ps : List Nat), vs = [v, .int (nm : Nat), .ref pl] ∧ Rep K H v (encT t) ∧ H pl = some (.lst xs) ∧ OkP xs ps ∧ ownOk nm ps t ∧ ∀ H', Ch K [] H H' → Q (.str "") H'
theorem fn_number (C : Cn w K mg base) : Fn P w K mg base CX0 2 "number_flaw" ["thing", "names", "params"] (spNumber K) := C.f_number_flaw fun fd F => by
  have F_takes : Fn P w K mg base CX0 1 "takes" ["fun", "many", "params"] (spTakes K) := fn_takes C
  have F_places_behind : Fn P w K mg base CX0 1 "places_behind" ["word"] (spPlaces K) := fn_places C
  refine F.ok (CX := CX0) sc_number_flaw (fun vs H Q E h => ?_) (fun cdv A outer s H vs Q E hr h => ?_)
  · obtain ⟨v, t, nm, pl, xs, ps, rfl, _⟩ := h
    rfl
  · obtain ⟨v, t, nm, pl, xs, ps, rfl, rep0, hpl0, okp, own, q⟩ := h
    have lxs := okp.len
    refine ⟨_, PSs.nox (pss_cons (ps_for PassesOwn.never rfl (RZ.pi_zipA (by rfl) (C.m_zip) (pa_cons (pe_fn F_places_behind (rmm hr) (by rfl) pass0 (pa_cons (pe_ix ix_tup (pv 0) pe_int (fun _ _ => rfl)) pa_nil)) (pa_cons (pe_slice sl_tupR (pv 0) (po_some pe_int) po_none) pa_nil))) (pg_tup rfl (pgs_cons (pg_name (i := 3) sc_number_flaw.nd rfl (Or.inl rfl)) (pgs_cons (pg_name (i := 4) sc_number_flaw.nd rfl (Or.inl rfl)) pgs_nil))) (pss_cons (ps_if (pt_mid (PW.pt (pw_and (pt_cmpR op_eq (pv 3) pe_str (nomark _)) (pw_and1 (pt_cmpR op_gt (pe_callB call_abs (by rfl) (C.m_abs) (by decide +kernel) (pa_cons (pv 4) pa_nil)) (pe_iglob (by rfl) C.i_MOST_NUM) (nomark _)))))) (pss_one (ps_ret pe_str)) pss_nil)
      (pss_cons (ps_if (pt_mid (PW.pt (pw_and (pt_cmpR op_eq (pv 3) pe_str (nomark _)) (pw_and1 (pt_not (pt_chain op_le op_lt pe_int (pv 4) (pv 1))))))) (pss_one (ps_ret pe_str)) pss_nil)
      (pss_one (ps_if (pt_mid (PW.pt (pw_and (pt_cmpR op_eq (pv 3) pe_str (nomark _)) (pw_and1 (pt_not (pt_chain op_le op_lt pe_int (pv 4) (pe_callB call_len_seq (by rfl) (C.m_len) PySem.boot_len (pa_cons (pv 2) pa_nil)))))))) (pss_one (ps_ret pe_str)) pss_nil)))))
      (pss_cons (ps_if (pt_mid (PW.pt (pw_and (pt_cmpR op_eq (pe_ix ix_tup (pv 0) pe_int (fun _ _ => rfl)) pe_str (nomark _)) (pw_and1 (pt_not (pt_val (pe_fn F_takes (rmm hr) (by rfl) pass0 (pa_cons (pe_ix ix_tup (pv 0) pe_int (fun _ _ => rfl)) (pa_cons (pe_callB call_len_seq (by rfl) (C.m_len) PySem.boot_len (pa_cons (pe_ix ix_tup (pv 0) pe_int (fun _ _ => rfl)) pa_nil)) (pa_cons (pv 2) pa_nil)))))))))) (pss_one (ps_ret pe_str)) pss_nil)
      (pss_one (ps_ret pe_str)))), ?_⟩
    have rep := rep0
    rw [encT_eq] at rep
    obtain ⟨a, us, rfl, hS, rs⟩ := thing1 rep0
    have h0 := atI_nat (j := 0) (List.getElem?_cons_zero (a := V.str (wdT t)) (l := us))
    walk_at "go"
    refine g_zipA ?_
    walk_at "g"
    refine ⟨t, rfl, fun pa hpl => ?_⟩
    walk_at "g"
    refine ⟨_, rep, fun v1 H1 c1 r1 => ?_⟩
    rw [show (some (1 : Int)) = some ((1 : Nat) : Int) from rfl, cutT_from] at r1
    obtain ⟨b, ub, rfl, hb, rb⟩ := r1.tupI
    walk_at "g"
    refine ⟨pa, b, _, _, rfl, .inr ⟨hpl H1, hb, ?_⟩⟩
    have rb' : Reps K H1 ub (restT t) := rb
    have ll : ((plT t).map V.str).length = ub.length := by rw [List.length_map, plT_len, rb'.len]
    refine RZ.for_zipT ll (fun i σ H' => ∃ x y, σ = [some (.ref a), some (.int (nm : Nat)), some (.ref pl), x, y] ∧ Ch K [] H1 H') ⟨none, none, rfl, Ch.refl⟩ (fun i σ H' ⟨_, _, _, c⟩ => ⟨hpl H', c.sqT hb⟩) ?_ ?_
    · rintro i x y T σ H2 hx hy ⟨x3, x4, rfl, c2⟩ nT
      rw [List.getElem?_map] at hx
      cases es : (plT t)[i]? with
      | none => rw [es] at hx; cases hx
      | some s =>
        rw [es] at hx
        obtain rfl : V.str s = x := Option.some.inj hx
        obtain ⟨ty, ety, ry⟩ := rb'.get hy
        obtain ⟨o1, o2, o3, o4, o5⟩ := ok_at own es ety
        have cT : Ch K [] H2 (upd H2 T (.tup [.str s, y])) := Ch.new nT
        have eT : (upd H2 T (.tup [.str s, y])) T = some (.tup [.str s, y]) := upd_same
        generalize upd H2 T (.tup [.str s, y]) = H3 at cT eT ⊢
        have ry3 := ry.kt (c2.trans cT).kt
        have hpl3 := (c1.trans (c2.trans cT)).up _ _ hpl0 (by simp)
        walk_at "g"
        refine g_mid (fun b H' => b = false ∧ H' = H3) ?_ ?_
        · walk_at "g"
          refine iteB (fun hc => ?_) (fun hc => ?_)
          · have hs : s = "n" := by
              have := of_decide_eq_true hc
              injection this
            obtain ⟨z, rfl, z1, z2⟩ := o1 hs
            obtain rfl := ry3.intI
            walk_at "g"
            refine ⟨decide_eq_false ?_, rfl⟩
            split <;> omega
          · exact ⟨rfl, rfl⟩
        · rintro _ H4 ⟨rfl, e4⟩
          rw [e4]
          clear e4 H4
          walk_at "no"
          refine g_mid (fun b H' => b = false ∧ H' = H3) ?_ ?_
          · walk_at "g"
            refine iteB (fun hc => ?_) (fun hc => ?_)
            · have hs : s = "name" := by
                have := of_decide_eq_true hc
                injection this
              obtain ⟨z, rfl, z1⟩ := o2 hs
              obtain rfl := ry3.intI
              walk_at "g"
              refine ⟨?_, rfl⟩
              simp
              omega
            · exact ⟨rfl, rfl⟩
          · rintro _ H4 ⟨rfl, e4⟩
            rw [e4]
            clear e4 H4
            walk_at "no"
            refine g_mid (fun b H' => b = false ∧ H' = H3) ?_ ?_
            · walk_at "g"
              refine iteB (fun hc => ?_) (fun hc => ?_)
              · have hs : s = "fun" := by
                  have := of_decide_eq_true hc
                  injection this
                obtain ⟨z, rfl, z1⟩ := o3 hs
                obtain rfl := ry3.intI
                walk_at "g"
                refine ⟨?_, rfl⟩
                simp
                omega
              · exact ⟨rfl, rfl⟩
            · rintro _ H4 ⟨rfl, e4⟩
              rw [e4]
              clear e4 H4
              walk_at "no"
              exact ⟨_, _, rfl, c2.trans cT⟩
    · rintro σ H2 ⟨x3, x4, rfl, c2⟩
      have hS2 := (c1.trans c2).sqT hS
      have hpl2 := (c1.trans c2).up _ _ hpl0 (by simp)
      walk_at "g"
      refine g_mid (fun b H' => b = false ∧ H' = H2) ?_ ?_
      · walk_at "g"
        refine iteB (fun hc => ?_) (fun hc => ?_)
        · obtain ⟨f, qs, rfl⟩ : ∃ f ps, t = .p (.call f ps) := by
            cases t with
            | p p => cases p with
              | call f ps => exact ⟨f, ps, rfl⟩
              | _ => rw [wd_call (by trivial)] at hc; cases hc
            | d d => rw [wd_call (by trivial)] at hc; cases hc
          obtain ⟨v1, vs2, rfl, r1, rs2⟩ := rs.consI
          obtain ⟨v2, vs3, rfl, r2, rs3⟩ := rs2.consI
          obtain rfl := rs3.nilI
          obtain rfl := r1.intI
          obtain ⟨b, us, rfl, hb, rus⟩ := r2.tupI
          have hb2 := (c1.trans c2).sqT hb
          walk_at "g"
          rw [rus.len, encPs_len]
          refine ⟨f, qs.length, pl, xs, ps, rfl, hpl2, okp, own, ?_⟩
          walk_at "g"
          exact ⟨rfl, rfl⟩
        · exact ⟨rfl, rfl⟩
      · rintro _ H4 ⟨rfl, e4⟩
        rw [e4]
        walk_at "no"
        exact q H2 (c1.trans c2)
end
end K3
end

section
set_option maxRecDepth 100000
set_option maxHeartbeats 1000000
open Bq L2
/-- one step of a reading; what is left are side goals and places to think -/
local macro_rules | `(tactic| walk_at "g1") => `(tactic| first
  | with_reducible refine' g_seq ?_ | with_reducible refine' g_asg ?_ | with_reducible refine' g_drop ?_ | with_reducible refine' g_ret ?_ | with_reducible refine' g_ifS ?_ | with_reducible refine' g_asgG ?_
  | ((with_reducible refine' g_var ?hv ?_); (case hv => rfl))
  | with_reducible refine' g_c ?_ | with_reducible refine' g_op ?_ | with_reducible refine' g_un ?_ | with_reducible refine' g_I0 ?_ | with_reducible refine' g_U ?_
  | with_reducible refine' g_test ?_ | with_reducible refine' g_tB ?_ | with_reducible refine Exists.intro _ (And.intro rfl ?_) 
  | ((with_reducible refine' g_andP ?ha ?hb ?_); (case ha => intro R q; walk_at "g"; exact q); (case hb => intro R q; walk_at "g"; exact q))
  | ((with_reducible refine' g_orP ?ha ?hb ?_); (case ha => intro R q; walk_at "g"; exact q); (case hb => intro R q; walk_at "g"; exact q))
  | with_reducible refine' g_and ?_ | with_reducible refine' g_or ?_ | with_reducible refine' g_not ?_
  | with_reducible refine' g_andV ?_ | with_reducible refine' g_orV ?_ | with_reducible refine' g_notV ?_ | with_reducible refine' g_if ?_ | with_reducible refine' g_nil ?_ | with_reducible refine' g_cons ?_
  | with_reducible refine' g_tup ?_ | with_reducible refine' g_lst ?_ | with_reducible refine' g_CB ?_ | with_reducible refine' g_Fn ?_ | with_reducible refine' g_next ?_ | with_reducible refine' g_retN ?_
  | with_reducible refine' g_name ?_ | with_reducible refine' g_sub ?_
  | ((with_reducible refine' g_ixL ?hs ?he ?_); (case hs => walk_at "lk"); (case he => walk_at "at"))
  | ((with_reducible refine' g_ixT ?hs ?he ?_); (case hs => walk_at "lk"); (case he => walk_at "at"))
  | ((with_reducible refine' g_setL ?hs ?he ?_); (case hs => walk_at "hp"); (case he => rfl))
  | ((with_reducible refine' g_app ?hs ?hz ?_); (case hs => walk_at "hp"); (case hz => walk_at "sz"))
  | ((with_reducible refine' ⟨_, _, rfl, Or.inl ?hs, ?_⟩); (case hs => walk_at "lk"))
  | ((with_reducible refine' ⟨_, _, rfl, Or.inr ?hs, ?_⟩); (case hs => walk_at "lk"))
  | with_reducible refine' g_BM ?_ | with_reducible refine' g_BM0 ?_ | ((with_reducible refine' g_tyL ?hs ?_); (case hs => walk_at "lk"))
  | with_reducible refine' g_sl ?_ | with_reducible refine' g_noPart ?_ | with_reducible refine' g_part ?_
  | ((with_reducible refine' g_inT ?hs ?fx ?fs ?_); (case hs => walk_at "lk"); (case fx => rfl); (case fs => rfl))
  | with_reducible refine' g_pair ?_ | with_reducible refine' g_pair0 ?_ | with_reducible refine' g_disp ?_
  | with_reducible refine' g_for ?_ | with_reducible refine' g_tupC ?_ | with_reducible refine' g_lstC ?_ | ((with_reducible refine' g_lens ?_)) | with_reducible refine' g_dg ?_ | with_reducible refine' g_lc ?_ | with_reducible refine' g_rng1 ?_ | with_reducible refine' g_ilist ?_ | with_reducible refine' g_itup ?_
  | ((with_reducible refine' ⟨_, _, rfl, ?hd, ?_⟩); (case hd => walk_at "dg"))
  | ((with_reducible refine' g_eqNil ?hs ?hz ?_); (case hs => walk_at "lk"); (case hz => walk_at "lk"))
  | ((with_reducible refine' g_neNil ?hs ?hz ?_); (case hs => walk_at "lk"); (case hz => walk_at "lk"))
  | with_reducible refine Or.inl ⟨_, rfl, ?_⟩
  | with_reducible refine Or.inr ⟨_, rfl, ?_⟩
  | ((with_reducible refine' g_eq ?hs ?_); (case hs => rfl))
  | ((with_reducible refine' g_ne ?hs ?_); (case hs => rfl))
  | ((with_reducible refine' g_I ?hc ?_); (case hc => walk_at "ar")))
/-- arithmetic's side conditions -/
local macro_rules | `(tactic| walk_at "ar") => `(tactic| (first
  | (show (0 : Int) < _; first | omega | decide) | (show (0 : Int) < _ ∧ _; constructor <;> omega) | (show ¬ (_ : Int) = _; omega) | (show (_ : Int) ≠ _ ∧ _; constructor <;> omega)
  | (show (-(2 ^ 64) < _ ∧ _) ∨ _; (first | (left; constructor <;> omega) | (right; constructor <;> omega))) | (show (0 : Int) ≤ _ ∧ _ ∧ _; refine ⟨by omega, by omega, by decide⟩)))
/-- what stands at an index -/
local macro_rules | `(tactic| walk_at "at") => `(tactic| first | rfl | assumption)
/-- what stands at an address -/
local macro_rules | `(tactic| walk_at "hp") => `(tactic| first | assumption | exact upd_same | ((refine' Eq.trans (upd_ne ?hn) ?hm); (case hm => walk_at "hp"); (case hn => walk_at "ne")))
/-- two places are two -/
local macro_rules | `(tactic| walk_at "ne") => `(tactic| first
  | assumption | exact Ne.symm (by assumption)
  | ((refine' ne_of_none ?ha ?hb); (case hb => assumption); (case ha => walk_at "hp")) | ((refine' Ne.symm (ne_of_none ?ha ?hb)); (case hb => assumption); (case ha => walk_at "hp")))
/-- what a dict tells -/
local macro_rules | `(tactic| walk_at "dg") => `(tactic| first | assumption)
/-- a length -/
local macro_rules | `(tactic| walk_at "sz") => `(tactic| first | (show _ ≤ sizeLine; decide) | (show _ < sizeLine; decide) | assumption | exact szlt (by simp) | exact szle (by simp))
/-- a list or tuple that stands -/
local macro_rules | `(tactic| walk_at "lk") => `(tactic| first | assumption | exact SqL.of (by assumption) | exact SqT.of (by assumption) | exact SqL.of upd_same | exact SqT.of upd_same | (refine' FzL.sq ?hm; (case hm => walk_at "fz")))
/-- a list that nobody writes -/
local macro_rules | `(tactic| walk_at "fz") => `(tactic| first | assumption | ((refine' FzL.uw ?hm ?hx); (case hx => walk_at "hp"); (case hm => walk_at "fz")) | ((refine' FzL.nw ?hm ?hx); (case hx => assumption); (case hm => walk_at "fz")))
/-- as far as it goes by itself -/
local macro_rules | `(tactic| walk_at "g") => `(tactic| repeat walk_at "g1")
/-- the body's reading, its places in short -/
local macro_rules | `(tactic| walk_at "go") => `(tactic| ((try dsimp only [cxOf, Cx.nox, Cx.wish]); walk_at "g"))
namespace K3
open PySem PySem.Spec PyProof.Rows L2 Bq
section
variable {P : Program} {w : World} {K : PySem.W.Frag} {mg : Str → Option Value} {base : Heap}
/-- further steps: dicts written, tuples taken apart -/
local macro_rules | `(tactic| walk_at "g1") => `(tactic| first
  | with_reducible refine' g_sdput ?_
  | ((with_reducible refine' g_gtup ?hs ?hl ?_); (case hs => walk_at "lk"); (case hl => rfl))
  | with_reducible refine' g_gcons ?_
  | with_reducible refine' g_gnil ?_
  | with_reducible refine' And.intro (Eq.refl V.non) ?_
  | with_reducible refine' g_isN ?_
  | ((with_reducible refine' g_chainR ?ha ?hb ?hc ?_); (case ha => intro R q; walk_at "g"; exact q); (case hb => intro R q; walk_at "g"; exact q); (case hc => intro R q; walk_at "g"; exact q))
  | with_reducible refine' g_notN ?_)
/-- what the law's dict tells -/
local macro_rules | `(tactic| walk_at "dg") => `(tactic| first
  | assumption
  | exact LH.gfuns (by assumption)
  | exact LH.gsaid (by assumption)
  | exact LH.gcells (by assumption)
  | exact LH.gfuel (by assumption)
  | exact LH.gend (by assumption)
  | exact LH.gcalls (by assumption)
  | exact LH.gnames (by assumption)
  | exact LH.gwaits (by assumption)
  | exact LH.gworth (by assumption)
  | exact LH.glook (by assumption))
/-- a test that fails, that holds, by itself -/
local macro_rules | `(tactic| walk_at "no") => `(tactic| ((refine tkF rfl ?_); walk_at "g"))
local macro_rules | `(tactic| walk_at "yes") => `(tactic| ((refine tkT rfl ?_); walk_at "g"))
local macro_rules | `(tactic| walk_at "g1") => `(tactic| first
  | with_reducible refine' g_catS ?_
  | with_reducible refine' g_mulS ?_
  | with_reducible refine' g_rev ?_)
theorem encB_len : ∀ b : List Dd, (encB b).length = b.length
  | [] => rfl
  | d :: r => congrArg (· + 1) (encB_len r)
/-! ### what stands within a thing -/
def IsEnt (K : PySem.W.Frag) (H : Hp) (v : V) (e : Th × Int) : Prop := ∃ p u, v = .ref p ∧ SqT K H p [u, .int e.2] ∧ Rep K H u (encT e.1)
theorem IsEnt.kt {H H' : Hp} (k : Kt K H H') {v : V} {e : Th × Int} : IsEnt K H v e → IsEnt K H' v e
  | ⟨p, u, a, b, c⟩ => ⟨p, u, a, k.t _ _ b, c.kt k⟩
inductive Ents (K : PySem.W.Frag) (H : Hp) : List V → List (Th × Int) → Prop where
  | nil : Ents K H [] []
  | cons {v e vs es} (h : IsEnt K H v e) (r : Ents K H vs es) : Ents K H (v :: vs) (e :: es)
theorem Ents.kt {H H' : Hp} (k : Kt K H H') {vs : List V} {es : List (Th × Int)} (h : Ents K H vs es) : Ents K H' vs es := by
  induction h with
  | nil => exact .nil
  | cons h _ ih => exact .cons (h.kt k) ih
theorem Ents.len {H : Hp} {vs : List V} {es : List (Th × Int)} (h : Ents K H vs es) : vs.length = es.length := by
  induction h with
  | nil => rfl
  | cons _ _ ih => exact congrArg Nat.succ ih
theorem Ents.append {H : Hp} {vs us : List V} {es fs : List (Th × Int)} (h : Ents K H vs es) (g : Ents K H us fs) : Ents K H (vs ++ us) (es ++ fs) := by
  induction h with
  | nil => exact g
  | cons h _ ih => exact .cons h ih
theorem Ents.reverse {H : Hp} {vs : List V} {es : List (Th × Int)} (h : Ents K H vs es) : Ents K H vs.reverse es.reverse := by
  induction h with
  | nil => exact .nil
  | cons h _ ih =>
    rw [List.reverse_cons, List.reverse_cons]
    exact ih.append (.cons h .nil)
theorem Ents.snoc {H : Hp} {vs : List V} {e : Th × Int} {es : List (Th × Int)} (h : Ents K H vs (es ++ [e])) : ∃ us v, vs = us ++ [v] ∧ Ents K H us es ∧ IsEnt K H v e := by
  have h2 := h.reverse
  rw [List.reverse_append] at h2
  generalize e2 : vs.reverse = ws at h2
  cases h2 with
  | cons hv hr =>
    rename_i v ws'
    refine ⟨ws'.reverse, v, ?_, ?_, hv⟩
    · rw [← List.reverse_reverse vs, e2, List.reverse_cons]
    · have := hr.reverse
      simpa using this
theorem reps_ps {H : Hp} : ∀ {us : List V} {ps : List Pt} {i : Nat} {x : V}, Reps K H us (encPs ps) → us[i]? = some x → ∃ p, ps[i]? = some p ∧ Rep K H x (encP p)
  | us, [], i, x, r, h => by rw [r.nilI] at h; simp at h
  | us, p :: ps, i, x, r, h => by
    obtain ⟨v, vs, rfl, r0, r1⟩ := r.consI
    cases i with
    | zero => simp at h; subst h; exact ⟨p, rfl, r0⟩
    | succ i =>
      obtain ⟨p', h1, h2⟩ := reps_ps r1 (by simpa using h)
      exact ⟨p', by simpa using h1, h2⟩
theorem reps_ds {H : Hp} : ∀ {us : List V} {ps : List Dd} {i : Nat} {x : V}, Reps K H us (encB ps) → us[i]? = some x → ∃ p, ps[i]? = some p ∧ Rep K H x (encDd p)
  | us, [], i, x, r, h => by rw [r.nilI] at h; simp at h
  | us, p :: ps, i, x, r, h => by
    obtain ⟨v, vs, rfl, r0, r1⟩ := r.consI
    cases i with
    | zero => simp at h; subst h; exact ⟨p, rfl, r0⟩
    | succ i =>
      obtain ⟨p', h1, h2⟩ := reps_ds r1 (by simpa using h)
      exact ⟨p', by simpa using h1, h2⟩
def within (t : Th) (ar : Int) : List (Th × Int) := (innerT t).map (fun p => (Th.p p, (-1 : Int))) ++ (bodT t).flatten.map fun d => (Th.d d, ar + 1)
def spWithin (K : PySem.W.Frag) : Sp := fun vs H Q _ => ∃ v t, ∃ ar : Int, vs = [v, .int ar] ∧ Rep K H v (encT t) ∧ (within t ar).length ≤ 900 ∧ ∀ H' l us, Ch K [] H H' → H l = none → H' l = some (.lst us) → Ents K H' us (within t ar).reverse → Q (.ref l) H'
theorem fn_within (C : Cn w K mg base) : Fn P w K mg base CX0 3 "things_within" ["thing", "around"] (spWithin K) := C.f_things_within fun fd F => by
  have F_parts_of : Fn P w K mg base CX0 2 "parts_of" ["thing"] (spInner K) := fn_parts C
  have F_bodies_of : Fn P w K mg base CX0 2 "bodies_of" ["thing"] (spBodies K) := fn_bodies C
  refine F.ok (CX := CX0) sc_things_within (fun vs H Q E h => ?_) (fun cdv A outer s H vs Q E hr h => ?_)
  · obtain ⟨v, t, ar, rfl, _⟩ := h
    rfl
  · obtain ⟨v, t, ar, rfl, rep, hz, q⟩ := h
    refine ⟨_, PSs.nox (pss_cons (ps_setLc (i := 2) (own := [("part", 4)]) (g := gName 4) (tt := tYes) rfl sc_things_within.nd rfl rfl (sw_true rfl rfl rfl (by decide +kernel)) (pi_list (pe_fn F_parts_of (rmm hr) (by rfl) pass0 (pa_cons (pv 0) pa_nil))) (blkOk_by (own := [("part", 4)]) (N := ["thing", "around", "found", "body", "part", "deed"]) (sc := defScope s_things_within) (by decide +kernel)) (fun _ _ _ _ _ => pg_name (i := 4) sc_things_within.nd rfl (Or.inl rfl)) (fun _ _ _ _ _ => pts_nil) (fun _ _ _ _ _ => (pe_tupCK K (pa_cons (pv 4) (pa_cons (pe_iglob (by rfl) C.i_A_PART) pa_nil)))))
      (pss_cons (ps_for PassesOwn.never rfl (pi_list (pe_fn F_bodies_of (rmm hr) (by rfl) pass0 (pa_cons (pv 0) pa_nil))) (pg_name (i := 3) sc_things_within.nd rfl (Or.inl rfl)) (pss_one (ps_expr (pe_bm PySem.F.plainAttrs_list PySem.F.slot_list_extend PySem.F.type_list_extend mt_extend (pv 2) (pa_cons (pe_lc (own := [("deed", 5)]) (g := gName 5) (tt := tYes) rfl sc_things_within.nd (pi_tup (pv 3)) (blkOk_by (own := [("deed", 5)]) (N := ["thing", "around", "found", "body", "part", "deed"]) (sc := defScope s_things_within) (by decide +kernel)) (fun _ _ _ _ _ => pg_name (i := 5) sc_things_within.nd rfl (Or.inl rfl)) (fun _ _ _ _ _ => pts_nil) (fun _ _ _ _ _ => (pe_tupCK K (pa_cons (pv 5) (pa_cons (pe_op op_add (pv 1) pe_int) pa_nil))))) pa_nil)))))
      (pss_cons (ps_expr (pe_bm0 PySem.F.plainAttrs_list PySem.F.slot_list_reverse PySem.F.type_list_reverse mt_reverse (pv 2)))
      (pss_one (ps_ret (pv 2)))))), ?_⟩
    walk_at "go"
    refine ⟨v, t, rfl, rep, fun H1 l1 us1 c1 n1 e1 r1 => ?_⟩
    walk_at "g"
    simp only [within, List.length_append, List.length_map] at hz
    have lu1 : us1.length = (innerT t).length := by rw [r1.len, encPs_len]
    refine ⟨⟨_, SqL.of e1⟩, fun D nD => ?_⟩
    have nl1 : l1 ∉ [D] := by
      have := ne_of_none e1 nD
      simpa using this
    refine lcL1 (xs := us1) (fun i H' => Ch K [] H1 H' ∧ ∃ vs, H' D = some (.lst vs) ∧ Ents K H' vs (((innerT t).take i).map fun p => (Th.p p, (-1 : Int)))) ⟨Ch.new nD, [], upd_same, by
      rw [List.take_zero]
      exact .nil⟩ (fun i H' _ p => SqL.of (p.1.up _ _ e1 (by simp))) ?_ ?_
    · rintro i x H2 hx ⟨c2, vs, eD, es⟩
      obtain ⟨p, hp, rp⟩ := reps_ps r1 hx
      walk_at "g"
      refine ⟨szle (by simp), fun tp H3 _ e3 c3 => ?_⟩
      have eD3 := c3.up _ _ eD (by simp)
      have c4 : Ch K [] H1 (upd H3 D (.lst (vs ++ [V.ref tp]))) := Ch.wrN (c2.trans c3) nD eD3 rfl
      have k4 : Kt K H3 (upd H3 D (.lst (vs ++ [V.ref tp]))) := (Ch.wrL (S := [D]) eD3 (by simp)).kt
      have l1 := es.len
      rw [List.length_map, List.length_take] at l1
      refine ⟨vs, eD3, szlt (by omega), c4, _, upd_same, ?_⟩
      rw [List.take_add_one, hp, List.map_append]
      exact (es.kt (c3.kt.trans k4)).append (.cons ⟨tp, x, rfl, k4.t _ _ (SqT.of e3), rp.kt c4.kt⟩ .nil)
    · rintro H2 ⟨c2, vs, eD, es⟩
      rw [List.take_of_length_le (by omega)] at es
      walk_at "g"
      refine ⟨v, t, rfl, rep.kt (c1.trans c2).kt, fun H3 l3 us3 c3 n3 e3 r3 => ?_⟩
      have eD3 := c3.up _ _ eD (by simp)
      have nDl : D ≠ l3 := ne_of_none eD n3
      have es3 := es.kt c3.kt
      have nD0 : H D = none := c1.free nD (by simp)
      have c03 : Ch K [] H H3 := c1.trans (c2.trans c3)
      clear es eD c2 e1 r1
      walk_at "g"
      have lb : us3.length = (bodT t).length := by rw [r3.len, List.length_map]
      refine ⟨⟨_, SqL.of e3⟩, for_list (K := K) (a := l3) (xs := us3) (fun i σ H' => ∃ y, σ = [some v, some (.int ar), some (.ref D), y, none, none] ∧ Ch K [D] H3 H' ∧ Ch K [] H H' ∧ ∃ vs, H' D = some (.lst vs) ∧ Ents K H' vs ((innerT t).map (fun p => (Th.p p, (-1 : Int))) ++ ((bodT t).take i).flatten.map fun d => (Th.d d, ar + 1)))
        ⟨none, rfl, Ch.refl, c03, _, eD3, by simpa using es3⟩ (fun i σ H' _ ⟨_, _, c, _⟩ => SqL.of (c.up _ _ e3 (by simpa using nDl.symm))) ?_ ?_⟩
      · rintro i y σ H4 hi ⟨y0, rfl, c4, c04, vs, eD4, es4⟩
        obtain ⟨tb, htb, rb⟩ := r3.get hi
        rw [List.getElem?_map] at htb
        cases eb : (bodT t)[i]? with
        | none => rw [eb] at htb; cases htb
        | some b =>
          rw [eb] at htb
          obtain rfl : T.tup (encB b) = tb := Option.some.inj htb
          have rb4 := rb.kt c4.kt
          obtain ⟨ba, bvs, rfl, hba, rbs⟩ := rb4.tupI
          have lbv : bvs.length = b.length := by rw [rbs.len, encB_len]
          have hlen : ((bodT t).take i).flatten.length + b.length ≤ (bodT t).flatten.length := by
            have h1 : (bodT t).take (i + 1) = (bodT t).take i ++ [b] := by rw [List.take_add_one, eb]; rfl
            have h2 : ((bodT t).take (i + 1)).flatten.length ≤ (bodT t).flatten.length := by
              conv => rhs; rw [← List.take_append_drop (i + 1) (bodT t)]
              rw [List.flatten_append, List.length_append]
              omega
            rw [h1, List.flatten_append, List.length_append] at h2
            simpa using h2
          have lvs := es4.len
          rw [List.length_append, List.length_map, List.length_map] at lvs
          walk_at "g"
          refine ⟨⟨_, hba⟩, fun D2 nD2 => ?_⟩
          have nDD : D ∉ [D2] := by
            have := ne_of_none eD4 nD2
            simpa using this
          refine lcT1 (xs := bvs) (fun j H' => Ch K [] H4 H' ∧ ∃ ws, H' D2 = some (.lst ws) ∧ Ents K H' ws ((b.take j).map fun d => (Th.d d, ar + 1))) ⟨Ch.new nD2, [], upd_same, by
            rw [List.take_zero]
            exact .nil⟩ (fun j H' _ p => p.1.sqT hba) ?_ ?_
          · rintro j x H5 hx ⟨c5, ws, eD5, es5⟩
            obtain ⟨d, hd, rd⟩ := reps_ds rbs hx
            walk_at "g"
            refine ⟨szle (by simp), fun tp H6 _ e6 c6 => ?_⟩
            have eD6 := c6.up _ _ eD5 (by simp)
            have c7 : Ch K [] H4 (upd H6 D2 (.lst (ws ++ [V.ref tp]))) := Ch.wrN (c5.trans c6) nD2 eD6 rfl
            have k7 : Kt K H6 (upd H6 D2 (.lst (ws ++ [V.ref tp]))) := (Ch.wrL (S := [D2]) eD6 (by simp)).kt
            have l1 := es5.len
            rw [List.length_map, List.length_take] at l1
            refine ⟨ws, eD6, szlt (by omega), c7, _, upd_same, ?_⟩
            rw [List.take_add_one, hd, List.map_append]
            exact (es5.kt (c6.kt.trans k7)).append (.cons ⟨tp, x, rfl, k7.t _ _ (SqT.of e6), rd.kt c7.kt⟩ .nil)
          · rintro H5 ⟨c5, ws, eD5, es5⟩
            rw [List.take_of_length_le (by omega)] at es5
            have eDD := c5.up _ _ eD4 (by simp)
            have lws := es5.len
            rw [List.length_map] at lws
            walk_at "g"
            refine ⟨D, D2, vs, ws, rfl, rfl, eDD, eD5, szle (by omega), ?_⟩
            have c8 : Ch K [D] H5 (upd H5 D (.lst (vs ++ ws))) := Ch.wrL eDD (by simp)
            have c08 : Ch K [] H (upd H5 D (.lst (vs ++ ws))) := Ch.wrN (c04.trans c5) nD0 eDD rfl
            walk_at "g"
            refine ⟨(c4.trans (c5.mono (by simp))).trans c8, c08, _, upd_same, ?_⟩
            have h1 : (bodT t).take (i + 1) = (bodT t).take i ++ [b] := by rw [List.take_add_one, eb]; rfl
            rw [h1, List.flatten_append, List.map_append, ← List.append_assoc]
            simp only [List.flatten_cons, List.flatten_nil, List.append_nil]
            exact (es4.kt (c5.kt.trans c8.kt)).append (es5.kt c8.kt)
      · rintro σ H4 ⟨y0, rfl, c4, c04, vs, eD4, es4⟩
        rw [List.take_of_length_le (by omega)] at es4
        walk_at "g"
        refine ⟨D, vs, rfl, rfl, eD4, ?_⟩
        have c5 : Ch K [D] H4 (upd H4 D (.lst vs.reverse)) := Ch.wrL eD4 (by simp)
        have c05 : Ch K [] H (upd H4 D (.lst vs.reverse)) := Ch.wrN c04 nD0 eD4 rfl
        walk_at "g"
        exact q _ D vs.reverse c05 nD0 upd_same ((es4.kt c5.kt).reverse)
end
end K3
end

section
set_option maxRecDepth 100000
set_option maxHeartbeats 1000000
open Bq L2
/-- one step of a reading; what is left are side goals and places to think -/
local macro_rules | `(tactic| walk_at "g1") => `(tactic| first
  | with_reducible refine' g_seq ?_ | with_reducible refine' g_asg ?_ | with_reducible refine' g_drop ?_ | with_reducible refine' g_ret ?_ | with_reducible refine' g_ifS ?_ | with_reducible refine' g_asgG ?_
  | ((with_reducible refine' g_var ?hv ?_); (case hv => rfl))
  | with_reducible refine' g_c ?_ | with_reducible refine' g_op ?_ | with_reducible refine' g_un ?_ | with_reducible refine' g_I0 ?_ | with_reducible refine' g_U ?_
  | with_reducible refine' g_test ?_ | with_reducible refine' g_tB ?_ | with_reducible refine Exists.intro _ (And.intro rfl ?_) 
  | ((with_reducible refine' g_andP ?ha ?hb ?_); (case ha => intro R q; walk_at "g"; exact q); (case hb => intro R q; walk_at "g"; exact q))
  | ((with_reducible refine' g_orP ?ha ?hb ?_); (case ha => intro R q; walk_at "g"; exact q); (case hb => intro R q; walk_at "g"; exact q))
  | with_reducible refine' g_and ?_ | with_reducible refine' g_or ?_ | with_reducible refine' g_not ?_
  | with_reducible refine' g_andV ?_ | with_reducible refine' g_orV ?_ | with_reducible refine' g_notV ?_ | with_reducible refine' g_if ?_ | with_reducible refine' g_nil ?_ | with_reducible refine' g_cons ?_
  | with_reducible refine' g_tup ?_ | with_reducible refine' g_lst ?_ | with_reducible refine' g_CB ?_ | with_reducible refine' g_Fn ?_ | with_reducible refine' g_next ?_ | with_reducible refine' g_retN ?_
  | with_reducible refine' g_name ?_ | with_reducible refine' g_sub ?_
  | ((with_reducible refine' g_ixL ?hs ?he ?_); (case hs => walk_at "lk"); (case he => walk_at "at"))
  | ((with_reducible refine' g_ixT ?hs ?he ?_); (case hs => walk_at "lk"); (case he => walk_at "at"))
  | ((with_reducible refine' g_setL ?hs ?he ?_); (case hs => walk_at "hp"); (case he => rfl))
  | ((with_reducible refine' g_app ?hs ?hz ?_); (case hs => walk_at "hp"); (case hz => walk_at "sz"))
  | ((with_reducible refine' ⟨_, _, rfl, Or.inl ?hs, ?_⟩); (case hs => walk_at "lk"))
  | ((with_reducible refine' ⟨_, _, rfl, Or.inr ?hs, ?_⟩); (case hs => walk_at "lk"))
  | with_reducible refine' g_BM ?_ | with_reducible refine' g_BM0 ?_ | ((with_reducible refine' g_tyL ?hs ?_); (case hs => walk_at "lk"))
  | with_reducible refine' g_sl ?_ | with_reducible refine' g_noPart ?_ | with_reducible refine' g_part ?_
  | ((with_reducible refine' g_inT ?hs ?fx ?fs ?_); (case hs => walk_at "lk"); (case fx => rfl); (case fs => rfl))
  | with_reducible refine' g_pair ?_ | with_reducible refine' g_pair0 ?_ | with_reducible refine' g_disp ?_
  | with_reducible refine' g_for ?_ | with_reducible refine' g_tupC ?_ | with_reducible refine' g_lstC ?_ | ((with_reducible refine' g_lens ?_)) | with_reducible refine' g_dg ?_ | with_reducible refine' g_lc ?_ | with_reducible refine' g_rng1 ?_ | with_reducible refine' g_ilist ?_ | with_reducible refine' g_itup ?_
  | ((with_reducible refine' ⟨_, _, rfl, ?hd, ?_⟩); (case hd => walk_at "dg"))
  | ((with_reducible refine' g_eqNil ?hs ?hz ?_); (case hs => walk_at "lk"); (case hz => walk_at "lk"))
  | ((with_reducible refine' g_neNil ?hs ?hz ?_); (case hs => walk_at "lk"); (case hz => walk_at "lk"))
  | with_reducible refine Or.inl ⟨_, rfl, ?_⟩
  | with_reducible refine Or.inr ⟨_, rfl, ?_⟩
  | ((with_reducible refine' g_eq ?hs ?_); (case hs => rfl))
  | ((with_reducible refine' g_ne ?hs ?_); (case hs => rfl))
  | ((with_reducible refine' g_I ?hc ?_); (case hc => walk_at "ar")))
/-- arithmetic's side conditions -/
local macro_rules | `(tactic| walk_at "ar") => `(tactic| (first
  | (show (0 : Int) < _; first | omega | decide) | (show (0 : Int) < _ ∧ _; constructor <;> omega) | (show ¬ (_ : Int) = _; omega) | (show (_ : Int) ≠ _ ∧ _; constructor <;> omega)
  | (show (-(2 ^ 64) < _ ∧ _) ∨ _; (first | (left; constructor <;> omega) | (right; constructor <;> omega))) | (show (0 : Int) ≤ _ ∧ _ ∧ _; refine ⟨by omega, by omega, by decide⟩)))
/-- what stands at an index -/
local macro_rules | `(tactic| walk_at "at") => `(tactic| first | rfl | assumption)
/-- what stands at an address -/
local macro_rules | `(tactic| walk_at "hp") => `(tactic| first | assumption | exact upd_same | ((refine' Eq.trans (upd_ne ?hn) ?hm); (case hm => walk_at "hp"); (case hn => walk_at "ne")))
/-- two places are two -/
local macro_rules | `(tactic| walk_at "ne") => `(tactic| first
  | assumption | exact Ne.symm (by assumption)
  | ((refine' ne_of_none ?ha ?hb); (case hb => assumption); (case ha => walk_at "hp")) | ((refine' Ne.symm (ne_of_none ?ha ?hb)); (case hb => assumption); (case ha => walk_at "hp")))
/-- what a dict tells -/
local macro_rules | `(tactic| walk_at "dg") => `(tactic| first | assumption)
/-- a length -/
local macro_rules | `(tactic| walk_at "sz") => `(tactic| first | (show _ ≤ sizeLine; decide) | (show _ < sizeLine; decide) | assumption | exact szlt (by simp) | exact szle (by simp))
/-- a list or tuple that stands -/
local macro_rules | `(tactic| walk_at "lk") => `(tactic| first | assumption | exact SqL.of (by assumption) | exact SqT.of (by assumption) | exact SqL.of upd_same | exact SqT.of upd_same | (refine' FzL.sq ?hm; (case hm => walk_at "fz")))
/-- a list that nobody writes -/
local macro_rules | `(tactic| walk_at "fz") => `(tactic| first | assumption | ((refine' FzL.uw ?hm ?hx); (case hx => walk_at "hp"); (case hm => walk_at "fz")) | ((refine' FzL.nw ?hm ?hx); (case hx => assumption); (case hm => walk_at "fz")))
/-- as far as it goes by itself -/
local macro_rules | `(tactic| walk_at "g") => `(tactic| repeat walk_at "g1")
/-- the body's reading, its places in short -/
local macro_rules | `(tactic| walk_at "go") => `(tactic| ((try dsimp only [cxOf, Cx.nox, Cx.wish]); walk_at "g"))
namespace K3
open PySem PySem.Spec PyProof.Rows L2 Bq
section
variable {P : Program} {w : World} {K : PySem.W.Frag} {mg : Str → Option Value} {base : Heap}
/-- further steps: dicts written, tuples taken apart -/
local macro_rules | `(tactic| walk_at "g1") => `(tactic| first
  | with_reducible refine' g_sdput ?_
  | ((with_reducible refine' g_gtup ?hs ?hl ?_); (case hs => walk_at "lk"); (case hl => rfl))
  | with_reducible refine' g_gcons ?_
  | with_reducible refine' g_gnil ?_
  | with_reducible refine' And.intro (Eq.refl V.non) ?_
  | with_reducible refine' g_isN ?_
  | ((with_reducible refine' g_chainR ?ha ?hb ?hc ?_); (case ha => intro R q; walk_at "g"; exact q); (case hb => intro R q; walk_at "g"; exact q); (case hc => intro R q; walk_at "g"; exact q))
  | with_reducible refine' g_notN ?_)
/-- what the law's dict tells -/
local macro_rules | `(tactic| walk_at "dg") => `(tactic| first
  | assumption
  | exact LH.gfuns (by assumption)
  | exact LH.gsaid (by assumption)
  | exact LH.gcells (by assumption)
  | exact LH.gfuel (by assumption)
  | exact LH.gend (by assumption)
  | exact LH.gcalls (by assumption)
  | exact LH.gnames (by assumption)
  | exact LH.gwaits (by assumption)
  | exact LH.gworth (by assumption)
  | exact LH.glook (by assumption))
/-- a test that fails, that holds, by itself -/
local macro_rules | `(tactic| walk_at "no") => `(tactic| ((refine tkF rfl ?_); walk_at "g"))
local macro_rules | `(tactic| walk_at "yes") => `(tactic| ((refine tkT rfl ?_); walk_at "g"))
local macro_rules | `(tactic| walk_at "g1") => `(tactic| first
  | with_reducible refine' g_catS ?_
  | with_reducible refine' g_mulS ?_
  | with_reducible refine' g_rev ?_)
/-! ### a body looked at -/
theorem lcR {a : Addr} {xs : List V} {k : Nat} {te : TE} {σ : L2.St} {H1 : Hp} {D : Addr} {Qd : Hp → Prop} (Pv : Nat → Hp → Prop) (h0 : Pv 0 (upd H1 D (.lst []))) (hl : ∀ i H, Pv i H → SqT K H a xs)
    (hs : ∀ (i : Nat) x H, xs[xs.length - 1 - i]? = some x → i < xs.length → Pv i H → te ((wipe σ [k]).set k (some x)) H fun y H4 => ∃ acc, H4 D = some (.lst acc) ∧ acc.length < sizeLine ∧ Pv (i + 1) (upd H4 D (.lst (acc ++ [y])))) (hd : ∀ H, Pv xs.length H → Qd H) :
    ∃ W : Nat → Nat → Hp → Prop, (∃ m, W 0 m (upd H1 D (.lst []))) ∧ ∀ i m H, W i m H →
      ((RT.ItvT K a xs.length).stop i H ∧ Qd H) ∨ ((RT.ItvT K a xs.length).go i H ∧ ∃ Nx : Hp → Prop, (∀ H', Nx H' → ∃ m', m' < m ∧ W (i + 1) m' H') ∧ ∀ x H', (RT.ItvT K a xs.length).yld i H x H' → gName k x (wipe σ [k]) H' fun σ2 H2 => wipe σ2 [k] = wipe σ [k] ∧ tYes σ2 H2 fun b H3 =>
        if b = true then te σ2 H3 fun y H4 => ∃ acc, H4 D = some (.lst acc) ∧ acc.length < sizeLine ∧ Nx (upd H4 D (.lst (acc ++ [y]))) else Nx H3) := by
  refine ⟨fun i m H => m = xs.length - i ∧ i ≤ xs.length ∧ Pv i H, ⟨xs.length, rfl, Nat.zero_le _, h0⟩, ?_⟩
  rintro i m H ⟨rfl, hi, p⟩
  by_cases hlt : i < xs.length
  · have hj : xs.length - 1 - i < xs.length := by omega
    have hx : xs[xs.length - 1 - i]? = some xs[xs.length - 1 - i] := List.getElem?_eq_getElem hj
    refine .inr ⟨⟨hlt, xs, _, hl i H p, hx⟩, Pv (i + 1), fun H' p' => ⟨xs.length - (i + 1), by omega, rfl, hlt, p'⟩, fun v H' y => ?_⟩
    obtain ⟨e, hy⟩ := y
    subst e
    refine ⟨wipe1, ?_⟩
    simp only [tYes, ↓reduceIte]
    exact hs i v _ (hy xs (hl i _ p)) hlt p
  · have e : i = xs.length := by omega
    subst e
    exact .inl ⟨Nat.le_refl _, hd H p⟩
def stk (pts : List Pt) (ds : List (Dd × Nat)) : List (Th × Int) := pts.map (fun p => (Th.p p, (-1 : Int))) ++ ds.map fun x => (Th.d x.1, (x.2 : Int))
def szDs : List (Dd × Nat) → Nat
  | [] => 0
  | x :: r => szD x.1 + szDs r
theorem szDs_app : ∀ a b : List (Dd × Nat), szDs (a ++ b) = szDs a + szDs b
  | [], b => by simp [szDs]
  | x :: r, b => by
    have := szDs_app r b
    simp only [List.cons_append, szDs, this]
    omega
theorem szPs_app : ∀ a b : List Pt, szPs (a ++ b) = szPs a + szPs b
  | [], b => by simp [szPs]
  | x :: r, b => by
    have := szPs_app r b
    simp only [List.cons_append, szPs, this]
    omega
theorem szDs_map (n : Nat) : ∀ b : List Dd, szDs (b.map fun d => (d, n)) = szB b
  | [] => rfl
  | d :: r => by
    have := szDs_map n r
    simp only [List.map_cons, szDs, szB, this]
theorem sz_inner (p : Pt) : szPs (innerP p) + 1 = szP p := by
  have := remP_inner p
  simp only [remP, List.drop_zero] at this
  omega
theorem szB_app : ∀ a b : List Dd, szB (a ++ b) = szB a + szB b
  | [], b => by simp [szB]
  | x :: r, b => by
    have := szB_app r b
    simp only [List.cons_append, szB, this]
    omega
theorem sz_innerD (d : Dd) : szPs (innerD d) + 1 + szB (bodT (.d d)).flatten = szD d := by
  cases d <;> simp [innerD, bodT, szPs, szB, szD, szB_app] <;> omega
theorem sz_inner40 {nm m : Nat} {ps : List Nat} {d : Dd} (w : wfD nm ps m d) : szPs (innerD d) ≤ 40 := by
  cases d with
  | set i p => have := w.2.2; simp [innerD, szPs]; omega
  | put c p => have := w.2.2; simp [innerD, szPs]; omega
  | say p => have := w.2; simp [innerD, szPs]; omega
  | ite p a b => have := w.2.1; simp [innerD, szPs]; omega
  | whl p b => have := w.2.1; simp [innerD, szPs]; omega
  | ret p => have := w.2; simp [innerD, szPs]; omega
  | dop p => have := w.2; simp [innerD, szPs]; omega
theorem wfPs_mem {nm : Nat} {ps : List Nat} : ∀ {l : List Pt}, wfPs nm ps l ↔ ∀ p ∈ l, wfP nm ps p
  | [] => by simp [wfPs]
  | p :: r => by simp [wfPs, wfPs_mem (l := r)]
theorem wfP_all {nm : Nat} {ps : List Nat} {p : Pt} (w : wfP nm ps p) : ∀ q ∈ innerP p, wfP nm ps q := by
  intro q hq
  obtain ⟨n, hn⟩ := List.mem_iff_getElem?.mp hq
  exact wfP_inner w hn
theorem wfD_all {nm m : Nat} {ps : List Nat} {d : Dd} (w : wfD nm ps m d) : ∀ q ∈ innerD d, wfP nm ps q := by
  intro q hq
  obtain ⟨n, hn⟩ := List.mem_iff_getElem?.mp hq
  exact wfD_inner w hn
theorem wfBs_mem {nm : Nat} {ps : List Nat} {m : Nat} {d : Dd} : ∀ {b : List Dd}, wfBs nm ps m b → d ∈ b → ∃ k, m = k + 1 ∧ wfD nm ps k d
  | [], _, h => by simp at h
  | x :: r, w, h => by
    cases m with
    | zero => exact w.elim
    | succ k =>
      rcases List.mem_cons.mp h with rfl | h
      · exact ⟨k, rfl, w.1⟩
      · exact wfBs_mem (b := r) w.2 h
theorem wf_bodies {nm m : Nat} {ps : List Nat} {d : Dd} (w : wfD nm ps m d) : ∀ x ∈ (bodT (.d d)).flatten, ∃ k, m = k + 1 ∧ wfD nm ps k x := by
  intro x hx
  cases d with
  | ite p a b =>
    simp only [bodT, List.flatten_cons, List.flatten_nil, List.append_nil, List.mem_append] at hx
    rcases hx with h | h
    · exact wfBs_mem w.2.2.1 h
    · exact wfBs_mem w.2.2.2 h
  | whl p b =>
    simp only [bodT, List.flatten_cons, List.flatten_nil, List.append_nil] at hx
    exact wfBs_mem w.2.2 hx
  | _ => simp [bodT] at hx
theorem own_p {nm : Nat} {ps : List Nat} {p : Pt} (w : wfP nm ps p) : ownOk nm ps (.p p) := by
  cases p with
  | num n => exact w
  | name n => exact w
  | call f qs => exact w.1
  | _ => trivial
theorem own_d {nm m : Nat} {ps : List Nat} {d : Dd} (w : wfD nm ps m d) : ownOk nm ps (.d d) := by
  cases d with
  | set i p => exact w.1
  | _ => trivial
theorem szDs_len : ∀ ds : List (Dd × Nat), ds.length ≤ szDs ds
  | [] => Nat.zero_le _
  | x :: r => by
    have := szDs_len r
    have h : 1 ≤ szD x.1 := by cases x.1 <;> simp [szD] <;> omega
    simp only [List.length_cons, szDs]
    omega
theorem szPs_len : ∀ ps : List Pt, ps.length ≤ szPs ps
  | [] => Nat.zero_le _
  | x :: r => by
    have := szPs_len r
    have h : 1 ≤ szP x := by cases x <;> simp [szP] <;> omega
    simp only [List.length_cons, szPs]
    omega
theorem szB_len' : ∀ ps : List Dd, ps.length ≤ szB ps
  | [] => Nat.zero_le _
  | x :: r => by
    have := szB_len' r
    have h : 1 ≤ szD x := by cases x <;> simp [szD] <;> omega
    simp only [List.length_cons, szB]
    omega
def spBodyFlaw (K : PySem.W.Frag) : Sp := fun vs H Q _ => ∃ v b nm pl, ∃ (xs : List V) (ps : List Nat), vs = [v, .int (nm : Nat), .ref pl] ∧ Rep K H v (.tup (encB b)) ∧ H pl = some (.lst xs) ∧ OkP xs ps ∧ wfBs nm ps 8 b ∧ szB b ≤ 190 ∧ ∀ H', Ch K [] H H' → Q .non H'
/-- the state of the look: parts to do first, then deeds -/
structure BI (K : PySem.W.Frag) (H : Hp) (nm : Nat) (ps : List Nat) (D : Addr) (pts : List Pt) (ds : List (Dd × Nat)) (at_ wide : Nat) : Prop where
  e : ∃ vs, H D = some (.lst vs) ∧ Ents K H vs (stk pts ds).reverse
  sz : at_ + szPs pts + szDs ds ≤ 190
  wd : wide + szPs pts ≤ 40
  wp : ∀ p ∈ pts, wfP nm ps p
  wdd : ∀ x ∈ ds, x.2 ≤ 7 ∧ wfD nm ps (7 - x.2) x.1
/-- what comes up: a part, or a deed -/
theorem BI.pop {H : Hp} {nm : Nat} {ps : List Nat} {D : Addr} {pts : List Pt} {ds : List (Dd × Nat)} {at_ wide : Nat} (h : BI K H nm ps D pts ds at_ wide) (hn : stk pts ds ≠ []) :
    ∃ us v t ar rest wide' pts' ds', H D = some (.lst (us ++ [v])) ∧ IsEnt K H v (t, ar) ∧ Ents K H us rest.reverse ∧ within t ar ++ rest = stk pts' ds' ∧ (within t ar).length ≤ 190 ∧ ownOk nm ps t ∧ (isP t = true → ar = -1 ∧ wide' = wide + 1) ∧ (isP t = false → 0 ≤ ar ∧ wide' = 0) ∧ at_ ≤ 189 ∧ ar ≤ 7 ∧ wide' ≤ 40 ∧
      at_ + 1 + szPs pts' + szDs ds' ≤ 190 ∧ wide' + szPs pts' ≤ 40 ∧ (∀ p ∈ pts', wfP nm ps p) ∧ (∀ x ∈ ds', x.2 ≤ 7 ∧ wfD nm ps (7 - x.2) x.1) ∧ szPs pts' + szDs ds' < szPs pts + szDs ds ∧ rest.length ≤ 190 := by
  obtain ⟨⟨vs, eD, es⟩, sz, wd, wp, wdd⟩ := h
  cases pts with
  | cons p r =>
    have e1 : (stk (p :: r) ds).reverse = (stk r ds).reverse ++ [(Th.p p, (-1 : Int))] := by simp [stk]
    rw [e1] at es
    obtain ⟨us, v, rfl, es', hv⟩ := es.snoc
    have h1 := sz_inner p
    have h2 := szPs_len (innerP p)
    have h3 := szPs_len r
    have h4 := szDs_len ds
    simp only [szPs] at sz wd ⊢
    have lw : within (Th.p p) (-1) = (innerP p).map fun p => (Th.p p, (-1 : Int)) := by simp [within, innerT, bodT]
    refine ⟨us, v, .p p, -1, stk r ds, wide + 1, innerP p ++ r, ds, eD, hv, es', ?_, ?_, own_p (wp p (by simp)), fun _ => ⟨rfl, rfl⟩, (fun z => by cases z), by omega, by omega, by omega, ?_, ?_, ?_, wdd, ?_, ?_⟩
    · rw [lw]; simp [stk]
    · rw [lw, List.length_map]; omega
    · rw [szPs_app]; omega
    · rw [szPs_app]; omega
    · intro q hq
      rcases List.mem_append.mp hq with h | h
      · exact wfP_all (wp p (by simp)) q h
      · exact wp q (by simp [h])
    · rw [szPs_app]; omega
    · simp only [stk, List.length_append, List.length_map]; omega
  | nil =>
    cases ds with
    | nil => exact absurd rfl hn
    | cons x r =>
      obtain ⟨d, a⟩ := x
      have e1 : (stk [] ((d, a) :: r)).reverse = (stk [] r).reverse ++ [(Th.d d, (a : Int))] := by simp [stk]
      rw [e1] at es
      obtain ⟨us, v, rfl, es', hv⟩ := es.snoc
      obtain ⟨ha, wD⟩ := wdd (d, a) (by simp)
      have h1 := sz_innerD d
      have h2 := szPs_len (innerD d)
      have h3 := szB_len' (bodT (.d d)).flatten
      have h4 := szDs_len r
      have h5 : szPs (innerD d) ≤ 40 := sz_inner40 wD
      simp only [szPs, szDs] at sz ⊢
      refine ⟨us, v, .d d, a, stk [] r, 0, innerD d, (bodT (.d d)).flatten.map (fun d => (d, a + 1)) ++ r, eD, hv, es', ?_, ?_, own_d wD, (fun z => by cases z), fun _ => ⟨by omega, rfl⟩, by omega, by omega, by omega, ?_, by omega, wfD_all wD, ?_, ?_, ?_⟩
      · simp [within, stk, innerT, List.map_map, Function.comp_def]
      · simp only [within, innerT, List.length_append, List.length_map]; omega
      · rw [szDs_app, szDs_map]; omega
      · intro y hy
        rcases List.mem_append.mp hy with h | h
        · obtain ⟨d', hd', rfl⟩ := List.mem_map.mp h
          obtain ⟨k, hk, wk⟩ := wf_bodies wD d' hd'
          refine ⟨by simp only; omega, ?_⟩
          have : 7 - (a + 1) = k := by simp only at hk; omega
          simp only [this]
          exact wk
        · exact wdd y (by simp [h])
      · rw [szDs_app, szDs_map]; omega
      · simp only [stk, List.map_nil, List.nil_append, List.length_map]; omega
theorem g_revA {te : TE} {σ : L2.St} {H : Hp} {R : It → Hp → Prop} (h : te σ H fun v H1 => ∃ (a : Addr) (xs : List V), v = .ref a ∧ ((SqL K H1 a xs ∧ R (Itv K a xs.length) H1) ∨ (SqT K H1 a xs ∧ R (RT.ItvT K a xs.length) H1))) : RT.iRevA K te σ H R := h
theorem g_orT {ta tb : TE} {σ : L2.St} {H : Hp} {Q : VK} (h : ta σ H fun x H1 => ∃ k, TruV K x H1 k ∧ if k = true then Q x H1 else tb σ H1 Q) : tOrT K ta tb σ H Q := h
theorem tru_no {H : Hp} : TruV K (.str "") H false := ⟨Nat.zero_le _, rfl⟩
theorem fn_body_flaw (C : Cn w K mg base) : Fn P w K mg base CX0 4 "body_flaw" ["body", "names", "params"] (spBodyFlaw K) := C.f_body_flaw fun fd F => by
  have F_bound_flaw : Fn P w K mg base CX0 1 "bound_flaw" ["at", "around", "wide"] (spBound K) := fn_bound C
  have F_shape_flaw : Fn P w K mg base CX0 2 "shape_flaw" ["thing", "around"] (spShape K) := fn_shape C
  have F_number_flaw : Fn P w K mg base CX0 2 "number_flaw" ["thing", "names", "params"] (spNumber K) := fn_number C
  have F_things_within : Fn P w K mg base CX0 3 "things_within" ["thing", "around"] (spWithin K) := fn_within C
  refine F.ok (CX := CX0) sc_body_flaw (fun vs H Q E h => ?_) (fun cdv A outer s H vs Q E hr h => ?_)
  · obtain ⟨v, b, nm, pl, xs, ps, rfl, _⟩ := h
    rfl
  · obtain ⟨v, b, nm, pl, xs, ps, rfl, rep, hpl, okp, wb, szb, q⟩ := h
    refine ⟨_, PSs.nox (pss_cons (ps_setLc (i := 3) (own := [("deed", 9)]) (g := gName 9) (tt := tYes) rfl sc_body_flaw.nd rfl rfl (sw_true rfl rfl rfl (by decide +kernel)) (RT.pi_revA (by rfl) (C.m_reversed) (pv 0)) (blkOk_by (own := [("deed", 9)]) (N := ["body", "names", "params", "todo", "at", "wide", "thing", "around", "why", "deed"]) (sc := defScope s_body_flaw) (by decide +kernel)) (fun _ _ _ _ _ => pg_name (i := 9) sc_body_flaw.nd rfl (Or.inl rfl)) (fun _ _ _ _ _ => pts_nil) (fun _ _ _ _ _ => (pe_tupCK K (pa_cons (pv 9) (pa_cons pe_int pa_nil)))))
      (pss_cons (ps_set (i := 4) sc_body_flaw.nd rfl (Or.inl rfl) pe_int)
      (pss_cons (ps_set (i := 5) sc_body_flaw.nd rfl (Or.inl rfl) pe_int)
      (pss_cons (ps_while PassesOwn.never (pt_truth (pv 3) (by intro _; rfl)) (pss_cons (ps_asg (pe_bm0 PySem.F.plainAttrs_list PySem.F.slot_list_pop PySem.F.type_list_pop mt_pop (pv 3)) (pg_tup rfl (pgs_cons (pg_name (i := 6) sc_body_flaw.nd rfl (Or.inl rfl)) (pgs_cons (pg_name (i := 7) sc_body_flaw.nd rfl (Or.inl rfl)) pgs_nil))))
      (pss_cons (ps_set (i := 5) sc_body_flaw.nd rfl (Or.inl rfl) (pe_mid (pe_ifExp (pt_cmpR op_eq (pv 7) (pe_iglob (by rfl) C.i_A_PART) (nomark _)) (pe_op op_add (pv 5) pe_int) pe_int)))
      (pss_cons (ps_set (i := 8) sc_body_flaw.nd rfl (Or.inl rfl) (pe_mid (pe_orT (pe_fn F_bound_flaw (rmm hr) (by rfl) pass0 (pa_cons (pv 4) (pa_cons (pv 7) (pa_cons (pv 5) pa_nil)))) (pe_orT (pe_fn F_shape_flaw (rmm hr) (by rfl) pass0 (pa_cons (pv 6) (pa_cons (pv 7) pa_nil))) (pe_one (pe_fn F_number_flaw (rmm hr) (by rfl) pass0 (pa_cons (pv 6) (pa_cons (pv 1) (pa_cons (pv 2) pa_nil)))))))))
      (pss_cons (ps_if (pt_truth (pv 8) (by intro _; rfl)) (pss_one (ps_ret (pe_tupC (pa_cons (pv 4) (pa_cons (pv 8) pa_nil))))) pss_nil)
      (pss_cons (ps_expr (pe_bm PySem.F.plainAttrs_list PySem.F.slot_list_extend PySem.F.type_list_extend mt_extend (pv 3) (pa_cons (pe_fn F_things_within (rmm hr) (by rfl) pass0 (pa_cons (pv 6) (pa_cons (pv 7) pa_nil))) pa_nil)))
      (pss_one (ps_aug (i := 4) sc_body_flaw.nd rfl (Or.inl rfl) pe_int ip_add))))))))
      (pss_one (ps_ret pe_non)))))), ?_⟩
    obtain ⟨ba, bvs, rfl, hba, rbs⟩ := rep.tupI
    have lbv : bvs.length = b.length := by rw [rbs.len, encB_len]
    have lb := szB_len' b
    walk_at "go"
    refine g_revA ?_
    walk_at "g"
    refine ⟨ba, bvs, rfl, .inr ⟨hba, fun D nD => ?_⟩⟩
    have npD : pl ≠ D := ne_of_none hpl nD
    refine lcR (xs := bvs) (fun i H' => Ch K [] H H' ∧ ∃ vs, H' D = some (.lst vs) ∧ Ents K H' vs ((b.reverse.take i).map fun d => (Th.d d, (0 : Int)))) ⟨Ch.new nD, [], upd_same, by
      rw [List.take_zero]
      exact .nil⟩ (fun i H' p => p.1.sqT hba) ?_ ?_
    · rintro i x H2 hx hi ⟨c2, vs, eD, es⟩
      obtain ⟨d, hd, rd⟩ := reps_ds rbs hx
      have hd' : b.reverse[i]? = some d := by
        rw [List.getElem?_reverse (by omega)]
        rw [← lbv]
        exact hd
      walk_at "g"
      refine ⟨szle (by simp), fun tp H3 _ e3 c3 => ?_⟩
      have eD3 := c3.up _ _ eD (by simp)
      have c4 : Ch K [] H (upd H3 D (.lst (vs ++ [V.ref tp]))) := Ch.wrN (c2.trans c3) nD eD3 rfl
      have k4 : Kt K H3 (upd H3 D (.lst (vs ++ [V.ref tp]))) := (Ch.wrL (S := [D]) eD3 (by simp)).kt
      have l1 := es.len
      rw [List.length_map, List.length_take, List.length_reverse] at l1
      refine ⟨vs, eD3, szlt (by omega), c4, _, upd_same, ?_⟩
      rw [List.take_add_one, hd', List.map_append]
      exact (es.kt (c3.kt.trans k4)).append (.cons ⟨tp, x, rfl, k4.t _ _ (SqT.of e3), rd.kt c4.kt⟩ .nil)
    · rintro H2 ⟨c2, vs, eD, es⟩
      rw [List.take_of_length_le (by rw [List.length_reverse]; omega)] at es
      have es2 : Ents K H2 vs (stk [] (b.map fun d => (d, 0))).reverse := by
        simpa [stk, List.map_map, Function.comp_def] using es
      walk_at "g"
      refine g_while ⟨fun m σ' H' => ∃ pts ds at_ wide x6 x7 x8 x9, σ' = [some (.ref ba), some (.int (nm : Nat)), some (.ref pl), some (.ref D), some (.int (at_ : Nat)), some (.int (wide : Nat)), x6, x7, x8, x9] ∧ m = szPs pts + szDs ds ∧ Ch K [] H H' ∧ BI K H' nm ps D pts ds at_ wide,
        ⟨_, [], b.map fun d => (d, 0), 0, 0, none, none, none, none, rfl, rfl, c2, ⟨⟨vs, eD, es2⟩, by simp only [szPs, szDs_map]; omega, by simp only [szPs]; omega, by simp, ?_⟩⟩, ?_⟩
      · intro x hx
        obtain ⟨d, hd, rfl⟩ := List.mem_map.mp hx
        obtain ⟨k, hk, wk⟩ := wfBs_mem wb hd
        refine ⟨by simp only; omega, ?_⟩
        have : k = 7 := by omega
        subst this
        exact wk
      · clear c2 eD es es2 vs H2
        rintro m σ' H2 ⟨pts, ds, at_, wide, x6, x7, x8, x9, rfl, rfl, c2, bi⟩
        obtain ⟨vs, eD, es⟩ := bi.e
        walk_at "g"
        refine ⟨!vs.isEmpty, .inl ⟨vs, SqL.of eD, rfl⟩, ?_⟩
        by_cases hn : stk pts ds = []
        · have : vs = [] := by
            rw [hn] at es
            cases es
            rfl
          subst this
          refine tkF rfl ?_
          walk_at "g"
          exact q H2 c2
        · obtain ⟨us, v, t, ar, rest, wide', pts', ds', eD2, ⟨tp, u, rfl, htp, ru⟩, eus, hst, lw, own, hp1, hp2, hat, har, hwd, sz', wd', wp', wdd', lt, lrest⟩ := bi.pop hn
          rw [eD] at eD2
          obtain rfl : vs = us ++ [V.ref tp] := by injection eD2 with e; injection e
          refine tkT (by simp) ⟨_, fun σ' H' h => h, ?_⟩
          have nD2 : H D = none := nD
          walk_at "g"
          refine ⟨_, _, V.ref tp, rfl, rfl, eD, by simp, ?_⟩
          rw [List.dropLast_concat]
          have c3 : Ch K [] H (upd H2 D (.lst us)) := Ch.wrN c2 nD eD rfl
          have k3 : Kt K H2 (upd H2 D (.lst us)) := (Ch.wrL (S := [D]) eD (by simp)).kt
          have eD3 : (upd H2 D (.lst us)) D = some (.lst us) := upd_same
          generalize upd H2 D (.lst us) = H3 at c3 k3 eD3 ⊢
          have htp3 := k3.t _ _ htp
          have ru3 := ru.kt k3
          have eus3 := eus.kt k3
          have hpl3 := c3.up _ _ hpl (by simp)
          walk_at "g"
          refine g_midE (fun v' H' => v' = .int (wide' : Nat) ∧ H' = H3) ?_ ?_
          · walk_at "g"
            cases hp : isP t with
            | true =>
              obtain ⟨rfl, rfl⟩ := hp1 hp
              walk_at "yes"
              exact ⟨rfl, rfl⟩
            | false =>
              obtain ⟨h0, rfl⟩ := hp2 hp
              refine tkF (decide_eq_false (fun z => by simp only [V.int.injEq] at z; omega)) ?_
              walk_at "g"
              exact ⟨rfl, rfl⟩
          · rintro _ H4 ⟨rfl, e4⟩
            rw [e4]
            clear e4 H4
            walk_at "g"
            refine g_midE (fun v' H' => v' = .str "" ∧ Ch K [] H3 H') ?_ ?_
            · refine g_orT ?_
              walk_at "g"
              refine ⟨_, _, _, rfl, by omega, by omega, by omega, ?_⟩
              refine ⟨false, tru_no, ?_⟩
              refine tkF rfl ?_
              refine g_orT ?_
              walk_at "g"
              refine ⟨u, t, nm, ps, ar, rfl, ru3, own, fun h => (hp1 h).1, fun h => (hp2 h).1, fun H4 c4 => ?_⟩
              refine ⟨false, tru_no, ?_⟩
              refine tkF rfl ?_
              walk_at "g"
              exact ⟨u, t, nm, pl, xs, ps, rfl, ru3.kt c4.kt, c4.up _ _ hpl3 (by simp), okp, own, fun H5 c5 => ⟨rfl, c4.trans c5⟩⟩
            · rintro _ H4 ⟨rfl, c4⟩
              have eD4 := c4.up _ _ eD3 (by simp)
              walk_at "g"
              refine ⟨false, tru_no, ?_⟩
              refine tkF rfl ?_
              walk_at "g"
              refine ⟨u, t, ar, rfl, ru3.kt c4.kt, by omega, fun H5 l5 us5 c5 n5 e5 es5 => ?_⟩
              have eD5 := c5.up _ _ eD4 (by simp)
              have l1 := eus.len
              have l2 := es5.len
              rw [List.length_reverse] at l1 l2
              walk_at "g"
              refine ⟨D, l5, us, us5, rfl, rfl, eD5, e5, szle (by omega), ?_⟩
              have c6 : Ch K [D] H5 (upd H5 D (.lst (us ++ us5))) := Ch.wrL eD5 (by simp)
              have c06 : Ch K [] H (upd H5 D (.lst (us ++ us5))) := Ch.wrN (c3.trans (c4.trans c5)) nD eD5 rfl
              walk_at "g"
              refine ⟨_, rfl, _, _, rfl, rfl, ?_⟩
              have eA : ((at_ : Nat) : Int) + 1 = ((at_ + 1 : Nat) : Int) := by omega
              refine ⟨szPs pts' + szDs ds', lt, pts', ds', at_ + 1, wide', some u, some (.int ar), some (.str ""), x9, ?_, rfl, c06, ⟨_, upd_same, ?_⟩, sz', wd', wp', wdd'⟩
              · rw [← eA]; rfl
              · rw [← hst, List.reverse_append]
                exact (eus3.kt ((c4.trans c5).kt.trans c6.kt)).append (es5.kt c6.kt)
end
end K3
end

section
set_option maxRecDepth 100000
set_option maxHeartbeats 1000000
open Bq L2
/-- one step of a reading; what is left are side goals and places to think -/
local macro_rules | `(tactic| walk_at "g1") => `(tactic| first
  | with_reducible refine' g_seq ?_ | with_reducible refine' g_asg ?_ | with_reducible refine' g_drop ?_ | with_reducible refine' g_ret ?_ | with_reducible refine' g_ifS ?_ | with_reducible refine' g_asgG ?_
  | ((with_reducible refine' g_var ?hv ?_); (case hv => rfl))
  | with_reducible refine' g_c ?_ | with_reducible refine' g_op ?_ | with_reducible refine' g_un ?_ | with_reducible refine' g_I0 ?_ | with_reducible refine' g_U ?_
  | with_reducible refine' g_test ?_ | with_reducible refine' g_tB ?_ | with_reducible refine Exists.intro _ (And.intro rfl ?_) 
  | ((with_reducible refine' g_andP ?ha ?hb ?_); (case ha => intro R q; walk_at "g"; exact q); (case hb => intro R q; walk_at "g"; exact q))
  | ((with_reducible refine' g_orP ?ha ?hb ?_); (case ha => intro R q; walk_at "g"; exact q); (case hb => intro R q; walk_at "g"; exact q))
  | with_reducible refine' g_and ?_ | with_reducible refine' g_or ?_ | with_reducible refine' g_not ?_
  | with_reducible refine' g_andV ?_ | with_reducible refine' g_orV ?_ | with_reducible refine' g_notV ?_ | with_reducible refine' g_if ?_ | with_reducible refine' g_nil ?_ | with_reducible refine' g_cons ?_
  | with_reducible refine' g_tup ?_ | with_reducible refine' g_lst ?_ | with_reducible refine' g_CB ?_ | with_reducible refine' g_Fn ?_ | with_reducible refine' g_next ?_ | with_reducible refine' g_retN ?_
  | with_reducible refine' g_name ?_ | with_reducible refine' g_sub ?_
  | ((with_reducible refine' g_ixL ?hs ?he ?_); (case hs => walk_at "lk"); (case he => walk_at "at"))
  | ((with_reducible refine' g_ixT ?hs ?he ?_); (case hs => walk_at "lk"); (case he => walk_at "at"))
  | ((with_reducible refine' g_setL ?hs ?he ?_); (case hs => walk_at "hp"); (case he => rfl))
  | ((with_reducible refine' g_app ?hs ?hz ?_); (case hs => walk_at "hp"); (case hz => walk_at "sz"))
  | ((with_reducible refine' ⟨_, _, rfl, Or.inl ?hs, ?_⟩); (case hs => walk_at "lk"))
  | ((with_reducible refine' ⟨_, _, rfl, Or.inr ?hs, ?_⟩); (case hs => walk_at "lk"))
  | with_reducible refine' g_BM ?_ | with_reducible refine' g_BM0 ?_ | ((with_reducible refine' g_tyL ?hs ?_); (case hs => walk_at "lk"))
  | with_reducible refine' g_sl ?_ | with_reducible refine' g_noPart ?_ | with_reducible refine' g_part ?_
  | ((with_reducible refine' g_inT ?hs ?fx ?fs ?_); (case hs => walk_at "lk"); (case fx => rfl); (case fs => rfl))
  | with_reducible refine' g_pair ?_ | with_reducible refine' g_pair0 ?_ | with_reducible refine' g_disp ?_
  | with_reducible refine' g_for ?_ | with_reducible refine' g_tupC ?_ | with_reducible refine' g_lstC ?_ | ((with_reducible refine' g_lens ?_)) | with_reducible refine' g_dg ?_ | with_reducible refine' g_lc ?_ | with_reducible refine' g_rng1 ?_ | with_reducible refine' g_ilist ?_ | with_reducible refine' g_itup ?_
  | ((with_reducible refine' ⟨_, _, rfl, ?hd, ?_⟩); (case hd => walk_at "dg"))
  | ((with_reducible refine' g_eqNil ?hs ?hz ?_); (case hs => walk_at "lk"); (case hz => walk_at "lk"))
  | ((with_reducible refine' g_neNil ?hs ?hz ?_); (case hs => walk_at "lk"); (case hz => walk_at "lk"))
  | with_reducible refine Or.inl ⟨_, rfl, ?_⟩
  | with_reducible refine Or.inr ⟨_, rfl, ?_⟩
  | ((with_reducible refine' g_eq ?hs ?_); (case hs => rfl))
  | ((with_reducible refine' g_ne ?hs ?_); (case hs => rfl))
  | ((with_reducible refine' g_I ?hc ?_); (case hc => walk_at "ar")))
/-- arithmetic's side conditions -/
local macro_rules | `(tactic| walk_at "ar") => `(tactic| (first
  | (show (0 : Int) < _; first | omega | decide) | (show (0 : Int) < _ ∧ _; constructor <;> omega) | (show ¬ (_ : Int) = _; omega) | (show (_ : Int) ≠ _ ∧ _; constructor <;> omega)
  | (show (-(2 ^ 64) < _ ∧ _) ∨ _; (first | (left; constructor <;> omega) | (right; constructor <;> omega))) | (show (0 : Int) ≤ _ ∧ _ ∧ _; refine ⟨by omega, by omega, by decide⟩)))
/-- what stands at an index -/
local macro_rules | `(tactic| walk_at "at") => `(tactic| first | rfl | assumption)
/-- what stands at an address -/
local macro_rules | `(tactic| walk_at "hp") => `(tactic| first | assumption | exact upd_same | ((refine' Eq.trans (upd_ne ?hn) ?hm); (case hm => walk_at "hp"); (case hn => walk_at "ne")))
/-- two places are two -/
local macro_rules | `(tactic| walk_at "ne") => `(tactic| first
  | assumption | exact Ne.symm (by assumption)
  | ((refine' ne_of_none ?ha ?hb); (case hb => assumption); (case ha => walk_at "hp")) | ((refine' Ne.symm (ne_of_none ?ha ?hb)); (case hb => assumption); (case ha => walk_at "hp")))
/-- what a dict tells -/
local macro_rules | `(tactic| walk_at "dg") => `(tactic| first | assumption)
/-- a length -/
local macro_rules | `(tactic| walk_at "sz") => `(tactic| first | (show _ ≤ sizeLine; decide) | (show _ < sizeLine; decide) | assumption | exact szlt (by simp) | exact szle (by simp))
/-- a list or tuple that stands -/
local macro_rules | `(tactic| walk_at "lk") => `(tactic| first | assumption | exact SqL.of (by assumption) | exact SqT.of (by assumption) | exact SqL.of upd_same | exact SqT.of upd_same | (refine' FzL.sq ?hm; (case hm => walk_at "fz")))
/-- a list that nobody writes -/
local macro_rules | `(tactic| walk_at "fz") => `(tactic| first | assumption | ((refine' FzL.uw ?hm ?hx); (case hx => walk_at "hp"); (case hm => walk_at "fz")) | ((refine' FzL.nw ?hm ?hx); (case hx => assumption); (case hm => walk_at "fz")))
/-- as far as it goes by itself -/
local macro_rules | `(tactic| walk_at "g") => `(tactic| repeat walk_at "g1")
/-- the body's reading, its places in short -/
local macro_rules | `(tactic| walk_at "go") => `(tactic| ((try dsimp only [cxOf, Cx.nox, Cx.wish]); walk_at "g"))
namespace K3
open PySem PySem.Spec PyProof.Rows L2 Bq
section
variable {P : Program} {w : World} {K : PySem.W.Frag} {mg : Str → Option Value} {base : Heap}
/-- further steps: dicts written, tuples taken apart -/
local macro_rules | `(tactic| walk_at "g1") => `(tactic| first
  | with_reducible refine' g_sdput ?_
  | ((with_reducible refine' g_gtup ?hs ?hl ?_); (case hs => walk_at "lk"); (case hl => rfl))
  | with_reducible refine' g_gcons ?_
  | with_reducible refine' g_gnil ?_
  | with_reducible refine' And.intro (Eq.refl V.non) ?_
  | with_reducible refine' g_isN ?_
  | ((with_reducible refine' g_chainR ?ha ?hb ?hc ?_); (case ha => intro R q; walk_at "g"; exact q); (case hb => intro R q; walk_at "g"; exact q); (case hc => intro R q; walk_at "g"; exact q))
  | with_reducible refine' g_notN ?_)
/-- what the law's dict tells -/
local macro_rules | `(tactic| walk_at "dg") => `(tactic| first
  | assumption
  | exact LH.gfuns (by assumption)
  | exact LH.gsaid (by assumption)
  | exact LH.gcells (by assumption)
  | exact LH.gfuel (by assumption)
  | exact LH.gend (by assumption)
  | exact LH.gcalls (by assumption)
  | exact LH.gnames (by assumption)
  | exact LH.gwaits (by assumption)
  | exact LH.gworth (by assumption)
  | exact LH.glook (by assumption))
/-- a test that fails, that holds, by itself -/
local macro_rules | `(tactic| walk_at "no") => `(tactic| ((refine tkF rfl ?_); walk_at "g"))
local macro_rules | `(tactic| walk_at "yes") => `(tactic| ((refine tkT rfl ?_); walk_at "g"))
local macro_rules | `(tactic| walk_at "g1") => `(tactic| first
  | with_reducible refine' g_catS ?_
  | with_reducible refine' g_mulS ?_
  | with_reducible refine' g_rev ?_)
/-- numbers in lists, more -/
local macro_rules | `(tactic| walk_at "g1") => `(tactic| first
  | with_reducible refine' g_augS ?_
  | with_reducible refine' g_ipI ?_
  | with_reducible refine' g_revL ?_
  | ((with_reducible refine' g_getL ?hs ?he ?_); (case hs => walk_at "lk"); (case he => walk_at "at"))
  | with_reducible refine' g_enum ?_)
open Fl
/-! ### a deed alone -/
/-- a deed of eight names and eight funs -/
structure WfDd (ps : List Nat) (d : Dd) : Prop where
  l8 : ps.length = 8
  p4 : ∀ n ∈ ps, n ≤ 4
  wf : wfD 8 ps 7 d
  sz : szD d ≤ 190
def spCheckD (K : PySem.W.Frag) : Sp := fun vs H Q _ => ∃ v d ps, vs = [v] ∧ Rep K H v (encDd d) ∧ WfDd ps d ∧ ∀ H', Ch K [] H H' → Q .non H'
theorem fn_check_deed (C : Cn w K mg base) : Fn P w K mg base CX0 5 "check_deed" ["deed"] (spCheckD K) := C.f_check_deed fun fd F => by
  have F_body_flaw : Fn P w K mg base CX0 4 "body_flaw" ["body", "names", "params"] (spBodyFlaw K) := fn_body_flaw C
  refine F.ok (CX := CX0) sc_check_deed (fun vs H Q E h => ?_) (fun cdv A outer s H vs Q E hr h => ?_)
  · obtain ⟨v, d, ps, rfl, _⟩ := h
    rfl
  · obtain ⟨v, d, ps, rfl, rep, W, q⟩ := h
    refine ⟨_, PSs.nox (pss_cons (ps_set (i := 1) sc_check_deed.nd rfl (Or.inl rfl) (pe_fn F_body_flaw (rmm hr) (by rfl) pass0 (pa_cons (pe_tupC (pa_cons (pv 0) pa_nil)) (pa_cons (pe_iglob (by rfl) C.i_MOST_NAMES) (pa_cons (pe_op op_repL (pe_lstC (pa_cons pe_non pa_nil)) (pe_iglob (by rfl) C.i_MOST_FUNS)) pa_nil)))))
      (pss_one (ps_if (pt_cmpR op_notN (pv 1) pe_non (nomark _)) (pss_cons (ps_asg (pv 1) (pg_tup rfl (pgs_cons (pg_name (i := 2) sc_check_deed.nd rfl (Or.inl rfl)) (pgs_cons (pg_name (i := 3) sc_check_deed.nd rfl (Or.inl rfl)) pgs_nil))))
      (pss_one ps_never)) pss_nil))), ?_⟩
    walk_at "go"
    refine ⟨szle (by simp), fun p1 H1 n1 e1 c1 => ?_⟩
    walk_at "g"
    refine ⟨szle (by simp), fun p2 H2 n2 e2 c2 => ?_⟩
    walk_at "g"
    refine ⟨p2, 8, _, rfl, rfl, e2, by decide, by decide, by decide, fun p3 H3 n3 e3 c3 => ?_⟩
    walk_at "g"
    have c23 := c2.trans c3
    refine ⟨.ref p1, [d], 8, p3, _, ps, rfl, .tup (c23.sqT (SqT.of e1)) (.cons (rep.kt ((c1.trans c23).kt)) .nil), e3, .inr ⟨by rw [W.l8]; rfl, W.p4⟩, ⟨W.wf, by unfold wfBs; trivial⟩, by simp only [szB]; have := W.sz; omega, fun H4 c4 => ?_⟩
    walk_at "g"
    walk_at "no"
    exact q H4 (((c1.trans c2).trans c3).trans c4)
/-! ### layers -/
structure LE where
  row : T
  kids : List Nat
def rowT : Th → T
  | .p (.num n) => .tup [.str "num", .int n]
  | .p (.name i) => .tup [.str "name", .int i]
  | .p (.bin op _ _) => .tup [.str op.str]
  | .p (.nt _) => .tup [.str "not"]
  | .p (.get _) => .tup [.str "get"]
  | .p (.call f ps) => .tup [.str "call", .int f, .int (ps.length : Nat)]
  | .d (.set i _) => .tup [.str "set", .int i]
  | .d (.put _ _) => .tup [.str "put"]
  | .d (.say _) => .tup [.str "say"]
  | .d (.ite _ _ _) => .tup [.str "unless"]
  | .d (.whl _ _) => .tup [.str "unless"]
  | .d (.ret _) => .tup [.str "return"]
  | .d (.dop _) => .tup [.str "away"]
def kidsOf : List Pt → Nat → List Nat
  | [], _ => []
  | p :: r, b => (b + szP p - 1) :: kidsOf r (b + szP p)
mutual
def layP : Pt → Nat → List LE
  | .num n, b => [⟨rowT (.p (.num n)), []⟩]
  | .name i, b => [⟨rowT (.p (.name i)), []⟩]
  | .bin op x y, b => layP x b ++ (layP y (b + szP x) ++ [⟨rowT (.p (.bin op x y)), kidsOf [x, y] b⟩])
  | .nt x, b => layP x b ++ [⟨rowT (.p (.nt x)), kidsOf [x] b⟩]
  | .get x, b => layP x b ++ [⟨rowT (.p (.get x)), kidsOf [x] b⟩]
  | .call f ps, b => layPs ps b ++ [⟨rowT (.p (.call f ps)), kidsOf ps b⟩]
def layPs : List Pt → Nat → List LE
  | [], _ => []
  | p :: r, b => layP p b ++ layPs r (b + szP p)
end
def layT (t : Th) (b : Nat) : List LE := layPs (innerT t) b ++ [⟨rowT t, kidsOf (innerT t) b⟩]
theorem layT_p (p : Pt) (b : Nat) : layT (.p p) b = layP p b := by
  cases p <;> simp [layT, layP, layPs, innerT, innerP, kidsOf]
def leT (e : LE) : T := .tup [e.row, .tup (e.kids.map fun k => T.int (k : Nat))]
mutual
theorem layP_len : ∀ (p : Pt) (b : Nat), (layP p b).length = szP p
  | .num _, _ => rfl
  | .name _, _ => rfl
  | .bin _ x y, b => by simp only [layP, List.length_append, layP_len x, layP_len y, szP, List.length_cons, List.length_nil]; omega
  | .nt x, b => by simp only [layP, List.length_append, layP_len x, szP, List.length_cons, List.length_nil]; omega
  | .get x, b => by simp only [layP, List.length_append, layP_len x, szP, List.length_cons, List.length_nil]; omega
  | .call _ ps, b => by simp only [layP, List.length_append, layPs_len ps, szP, List.length_cons, List.length_nil]; omega
theorem layPs_len : ∀ (ps : List Pt) (b : Nat), (layPs ps b).length = szPs ps
  | [], _ => rfl
  | p :: r, b => by simp only [layPs, List.length_append, layP_len p, layPs_len r, szPs]
end
theorem layT_len (t : Th) (b : Nat) : (layT t b).length = szPs (innerT t) + 1 := by simp [layT, layPs_len]
theorem layPs_snoc : ∀ (ps : List Pt) (q : Pt) (b : Nat), layPs (ps ++ [q]) b = layPs ps b ++ layP q (b + szPs ps)
  | [], q, b => by simp [layPs, szPs]
  | p :: r, q, b => by simp only [List.cons_append, layPs, layPs_snoc r q, List.append_assoc, szPs, Nat.add_assoc]
theorem kidsOf_snoc : ∀ (ps : List Pt) (q : Pt) (b : Nat), kidsOf (ps ++ [q]) b = kidsOf ps b ++ [b + szPs ps + szP q - 1]
  | [], q, b => by simp [kidsOf, szPs]
  | p :: r, q, b => by simp only [List.cons_append, kidsOf, kidsOf_snoc r q, szPs]; rw [show b + szP p + szPs r = b + (szP p + szPs r) by omega]
theorem szPs_snoc : ∀ (ps : List Pt) (q : Pt), szPs (ps ++ [q]) = szPs ps + szP q
  | [], q => by simp [szPs]
  | p :: r, q => by simp only [List.cons_append, szPs, szPs_snoc r q]; omega
theorem szP_pos (p : Pt) : 1 ≤ szP p := by cases p <;> simp only [szP] <;> omega
theorem kidsOf_len : ∀ (ps : List Pt) (b : Nat), (kidsOf ps b).length = ps.length
  | [], _ => rfl
  | p :: r, b => by simp only [kidsOf, List.length_cons, kidsOf_len r]
def spRowOf (K : PySem.W.Frag) : Sp := fun vs H Q _ => ∃ v t, vs = [v] ∧ Rep K H v (encT t) ∧ ∀ H' u, Ch K [] H H' → Rep K H' u (rowT t) → Q u H'
theorem row1 (t : Th) : inV (V.str (wdT t)) [V.str "num", V.str "name", V.str "set"] = (match t with | .p (.num _) => true | .p (.name _) => true | .d (.set _ _) => true | _ => false) := by
  cases t with
  | p p => cases p with
    | bin op a b => cases op <;> rfl
    | _ => rfl
  | d d => cases d <;> rfl
theorem row2 (t : Th) : decide (V.str (wdT t) = V.str "call") = (match t with | .p (.call _ _) => true | _ => false) := by
  cases t with
  | p p => cases p with
    | bin op a b => cases op <;> rfl
    | _ => rfl
  | d d => cases d <;> rfl
theorem row3 (t : Th) : inV (V.str (wdT t)) [V.str "if", V.str "while"] = (match t with | .d (.ite _ _ _) => true | .d (.whl _ _) => true | _ => false) := by
  cases t with
  | p p => cases p with
    | bin op a b => cases op <;> rfl
    | _ => rfl
  | d d => cases d <;> rfl
theorem row4 (t : Th) : decide (V.str (wdT t) = V.str "do") = (match t with | .d (.dop _) => true | _ => false) := by
  cases t with
  | p p => cases p with
    | bin op a b => cases op <;> rfl
    | _ => rfl
  | d d => cases d <;> rfl
/-- the sort of a thing's row -/
inductive RowK : Th → Prop where
  | one (t : Th) (i : Int) (r : List T) (h : restT t = .int i :: r) (e : rowT t = .tup [.str (wdT t), .int i]) (h1 : inV (V.str (wdT t)) [V.str "num", V.str "name", V.str "set"] = true) : RowK t
  | call (f : Nat) (ps : List Pt) : RowK (.p (.call f ps))
  | uns (t : Th) (e : rowT t = .tup [.str "unless"]) (h1 : inV (V.str (wdT t)) [V.str "num", V.str "name", V.str "set"] = false) (h2 : decide (V.str (wdT t) = V.str "call") = false) (h3 : inV (V.str (wdT t)) [V.str "if", V.str "while"] = true) : RowK t
  | aw (p : Pt) : RowK (.d (.dop p))
  | self (t : Th) (e : rowT t = .tup [.str (wdT t)]) (h1 : inV (V.str (wdT t)) [V.str "num", V.str "name", V.str "set"] = false) (h2 : decide (V.str (wdT t) = V.str "call") = false) (h3 : inV (V.str (wdT t)) [V.str "if", V.str "while"] = false) (h4 : decide (V.str (wdT t) = V.str "do") = false) : RowK t
theorem rowK (t : Th) : RowK t := by
  cases t with
  | p p => cases p with
    | num n => exact .one _ n [] rfl rfl (row1 _)
    | name i => exact .one _ i [] rfl rfl (row1 _)
    | call f ps => exact .call f ps
    | bin op a b => exact .self _ rfl (row1 _) (row2 _) (row3 _) (row4 _)
    | nt a => exact .self _ rfl (row1 _) (row2 _) (row3 _) (row4 _)
    | get a => exact .self _ rfl (row1 _) (row2 _) (row3 _) (row4 _)
  | d d => cases d with
    | set i p => exact .one _ i [encP p] rfl rfl (row1 _)
    | put c p => exact .self _ rfl (row1 _) (row2 _) (row3 _) (row4 _)
    | say p => exact .self _ rfl (row1 _) (row2 _) (row3 _) (row4 _)
    | ret p => exact .self _ rfl (row1 _) (row2 _) (row3 _) (row4 _)
    | ite p a b => exact .uns _ rfl (row1 _) (row2 _) (row3 _)
    | whl p b => exact .uns _ rfl (row1 _) (row2 _) (row3 _)
    | dop p => exact .aw p
theorem fn_row_of (C : Cn w K mg base) : Fn P w K mg base CX0 1 "row_of" ["thing"] (spRowOf K) := C.f_row_of fun fd F => by
  refine F.ok (CX := CX0) sc_row_of (fun vs H Q E h => ?_) (fun cdv A outer s H vs Q E hr h => ?_)
  · obtain ⟨v, t, rfl, _⟩ := h
    rfl
  · obtain ⟨v, t, rfl, rep, q⟩ := h
    refine ⟨_, PSs.nox (pss_cons (ps_set (i := 1) sc_row_of.nd rfl (Or.inl rfl) (pe_ix ix_tup (pv 0) pe_int (fun _ _ => rfl)))
      (pss_cons (ps_if (pt_cmpR op_in_seq (pv 1) (pe_tupC (pa_cons pe_str (pa_cons pe_str (pa_cons pe_str pa_nil)))) (by rfl)) (pss_one (ps_ret (pe_tupC (pa_cons (pv 1) (pa_cons (pe_ix ix_tup (pv 0) pe_int (fun _ _ => rfl)) pa_nil))))) pss_nil)
      (pss_cons (ps_if (pt_cmpR op_eq (pv 1) pe_str (nomark _)) (pss_one (ps_ret (pe_tupC (pa_cons (pv 1) (pa_cons (pe_ix ix_tup (pv 0) pe_int (fun _ _ => rfl)) (pa_cons (pe_callB call_len_seq (by rfl) (C.m_len) PySem.boot_len (pa_cons (pe_ix ix_tup (pv 0) pe_int (fun _ _ => rfl)) pa_nil)) pa_nil)))))) pss_nil)
      (pss_cons (ps_if (pt_cmpR op_in_seq (pv 1) (pe_tupC (pa_cons pe_str (pa_cons pe_str pa_nil))) (by rfl)) (pss_one (ps_ret (pe_tupC (pa_cons pe_str pa_nil)))) pss_nil)
      (pss_cons (ps_if (pt_cmpR op_eq (pv 1) pe_str (nomark _)) (pss_one (ps_ret (pe_tupC (pa_cons pe_str pa_nil)))) pss_nil)
      (pss_one (ps_ret (pe_tupC (pa_cons (pv 1) pa_nil))))))))), ?_⟩
    obtain ⟨a, us, rfl, hS, rs⟩ := thing1 rep
    have h0 : atI (V.str (wdT t) :: us) 0 = some (V.str (wdT t)) := atI_nat (j := 0) rfl
    walk_at "go"
    refine ⟨szle (by simp), fun l1 H1 n1 e1 c1 => ?_⟩
    have hS1 := c1.sqT hS
    walk_at "g"
    cases rowK t with
    | one _ i r hr1 er h1 =>
      rw [hr1] at rs
      obtain ⟨v1, vs2, rfl, r1, _⟩ := rs.consI
      obtain rfl := r1.intI
      have g1 : atI (V.str (wdT t) :: V.int i :: vs2) 1 = some (V.int i) := atI_nat (j := 1) rfl
      refine tkT h1 ?_
      walk_at "g"
      refine ⟨szle (by simp), fun p H2 n2 e2 c2 => ?_⟩
      refine q _ _ (c1.trans c2) ?_
      rw [er]
      exact .tup (SqT.of e2) (.cons (.str _) (.cons (.int _) .nil))
    | call f ps =>
      obtain ⟨v1, vs2, rfl, r1, rs2⟩ := rs.consI
      obtain ⟨v2, vs3, rfl, r2, _⟩ := rs2.consI
      obtain rfl := r1.intI
      obtain ⟨b, ws, rfl, hb, rw_⟩ := r2.tupI
      have hb1 := c1.sqT hb
      have lw : ws.length = ps.length := by rw [rw_.len]; exact encPs_len _
      have g1 : atI (V.str (wdT (.p (.call f ps))) :: V.int f :: V.ref b :: vs3) 1 = some (V.int f) := atI_nat (j := 1) rfl
      have g2 : atI (V.str (wdT (.p (.call f ps))) :: V.int f :: V.ref b :: vs3) 2 = some (V.ref b) := atI_nat (j := 2) rfl
      refine tkF (by rfl) ?_
      walk_at "g"
      walk_at "yes"
      rw [lw]
      refine ⟨szle (by simp), fun p H2 n2 e2 c2 => ?_⟩
      exact q _ _ (c1.trans c2) (.tup (SqT.of e2) (.cons (.str _) (.cons (.int _) (.cons (.int _) .nil))))
    | uns _ er h1 h2 h3 =>
      refine tkF h1 ?_
      walk_at "g"
      refine tkF h2 ?_
      walk_at "g"
      refine ⟨szle (by simp), fun l2 H2 n2 e2 c2 => ?_⟩
      walk_at "g"
      refine tkT h3 ?_
      walk_at "g"
      refine ⟨szle (by simp), fun p H3 n3 e3 c3 => ?_⟩
      refine q _ _ ((c1.trans c2).trans c3) ?_
      rw [er]
      exact .tup (SqT.of e3) (.cons (.str _) .nil)
    | aw p0 =>
      refine tkF (by rfl) ?_
      walk_at "g"
      walk_at "no"
      refine ⟨szle (by simp), fun l2 H2 n2 e2 c2 => ?_⟩
      walk_at "g"
      refine tkF (by rfl) ?_
      walk_at "g"
      walk_at "yes"
      refine ⟨szle (by simp), fun p H3 n3 e3 c3 => ?_⟩
      exact q _ _ ((c1.trans c2).trans c3) (.tup (SqT.of e3) (.cons (.str _) .nil))
    | self _ er h1 h2 h3 h4 =>
      refine tkF h1 ?_
      walk_at "g"
      refine tkF h2 ?_
      walk_at "g"
      refine ⟨szle (by simp), fun l2 H2 n2 e2 c2 => ?_⟩
      walk_at "g"
      refine tkF h3 ?_
      walk_at "g"
      refine tkF h4 ?_
      walk_at "g"
      refine ⟨szle (by simp), fun p H3 n3 e3 c3 => ?_⟩
      refine q _ _ ((c1.trans c2).trans c3) ?_
      rw [er]
      exact .tup (SqT.of e3) (.cons (.str _) .nil)
end
end K3
end

section
set_option maxRecDepth 100000
set_option maxHeartbeats 1000000
open Bq L2
/-- one step of a reading; what is left are side goals and places to think -/
local macro_rules | `(tactic| walk_at "g1") => `(tactic| first
  | with_reducible refine' g_seq ?_ | with_reducible refine' g_asg ?_ | with_reducible refine' g_drop ?_ | with_reducible refine' g_ret ?_ | with_reducible refine' g_ifS ?_ | with_reducible refine' g_asgG ?_
  | ((with_reducible refine' g_var ?hv ?_); (case hv => rfl))
  | with_reducible refine' g_c ?_ | with_reducible refine' g_op ?_ | with_reducible refine' g_un ?_ | with_reducible refine' g_I0 ?_ | with_reducible refine' g_U ?_
  | with_reducible refine' g_test ?_ | with_reducible refine' g_tB ?_ | with_reducible refine Exists.intro _ (And.intro rfl ?_) 
  | ((with_reducible refine' g_andP ?ha ?hb ?_); (case ha => intro R q; walk_at "g"; exact q); (case hb => intro R q; walk_at "g"; exact q))
  | ((with_reducible refine' g_orP ?ha ?hb ?_); (case ha => intro R q; walk_at "g"; exact q); (case hb => intro R q; walk_at "g"; exact q))
  | with_reducible refine' g_and ?_ | with_reducible refine' g_or ?_ | with_reducible refine' g_not ?_
  | with_reducible refine' g_andV ?_ | with_reducible refine' g_orV ?_ | with_reducible refine' g_notV ?_ | with_reducible refine' g_if ?_ | with_reducible refine' g_nil ?_ | with_reducible refine' g_cons ?_
  | with_reducible refine' g_tup ?_ | with_reducible refine' g_lst ?_ | with_reducible refine' g_CB ?_ | with_reducible refine' g_Fn ?_ | with_reducible refine' g_next ?_ | with_reducible refine' g_retN ?_
  | with_reducible refine' g_name ?_ | with_reducible refine' g_sub ?_
  | ((with_reducible refine' g_ixL ?hs ?he ?_); (case hs => walk_at "lk"); (case he => walk_at "at"))
  | ((with_reducible refine' g_ixT ?hs ?he ?_); (case hs => walk_at "lk"); (case he => walk_at "at"))
  | ((with_reducible refine' g_setL ?hs ?he ?_); (case hs => walk_at "hp"); (case he => rfl))
  | ((with_reducible refine' g_app ?hs ?hz ?_); (case hs => walk_at "hp"); (case hz => walk_at "sz"))
  | ((with_reducible refine' ⟨_, _, rfl, Or.inl ?hs, ?_⟩); (case hs => walk_at "lk"))
  | ((with_reducible refine' ⟨_, _, rfl, Or.inr ?hs, ?_⟩); (case hs => walk_at "lk"))
  | with_reducible refine' g_BM ?_ | with_reducible refine' g_BM0 ?_ | ((with_reducible refine' g_tyL ?hs ?_); (case hs => walk_at "lk"))
  | with_reducible refine' g_sl ?_ | with_reducible refine' g_noPart ?_ | with_reducible refine' g_part ?_
  | ((with_reducible refine' g_inT ?hs ?fx ?fs ?_); (case hs => walk_at "lk"); (case fx => rfl); (case fs => rfl))
  | with_reducible refine' g_pair ?_ | with_reducible refine' g_pair0 ?_ | with_reducible refine' g_disp ?_
  | with_reducible refine' g_for ?_ | with_reducible refine' g_tupC ?_ | with_reducible refine' g_lstC ?_ | ((with_reducible refine' g_lens ?_)) | with_reducible refine' g_dg ?_ | with_reducible refine' g_lc ?_ | with_reducible refine' g_rng1 ?_ | with_reducible refine' g_ilist ?_ | with_reducible refine' g_itup ?_
  | ((with_reducible refine' ⟨_, _, rfl, ?hd, ?_⟩); (case hd => walk_at "dg"))
  | ((with_reducible refine' g_eqNil ?hs ?hz ?_); (case hs => walk_at "lk"); (case hz => walk_at "lk"))
  | ((with_reducible refine' g_neNil ?hs ?hz ?_); (case hs => walk_at "lk"); (case hz => walk_at "lk"))
  | with_reducible refine Or.inl ⟨_, rfl, ?_⟩
  | with_reducible refine Or.inr ⟨_, rfl, ?_⟩
  | ((with_reducible refine' g_eq ?hs ?_); (case hs => rfl))
  | ((with_reducible refine' g_ne ?hs ?_); (case hs => rfl))
  | ((with_reducible refine' g_I ?hc ?_); (case hc => walk_at "ar")))
/-- arithmetic's side conditions -/
local macro_rules | `(tactic| walk_at "ar") => `(tactic| (first
  | (show (0 : Int) < _; first | omega | decide) | (show (0 : Int) < _ ∧ _; constructor <;> omega) | (show ¬ (_ : Int) = _; omega) | (show (_ : Int) ≠ _ ∧ _; constructor <;> omega)
  | (show (-(2 ^ 64) < _ ∧ _) ∨ _; (first | (left; constructor <;> omega) | (right; constructor <;> omega))) | (show (0 : Int) ≤ _ ∧ _ ∧ _; refine ⟨by omega, by omega, by decide⟩)))
/-- what stands at an index -/
local macro_rules | `(tactic| walk_at "at") => `(tactic| first | rfl | assumption)
/-- what stands at an address -/
local macro_rules | `(tactic| walk_at "hp") => `(tactic| first | assumption | exact upd_same | ((refine' Eq.trans (upd_ne ?hn) ?hm); (case hm => walk_at "hp"); (case hn => walk_at "ne")))
/-- two places are two -/
local macro_rules | `(tactic| walk_at "ne") => `(tactic| first
  | assumption | exact Ne.symm (by assumption)
  | ((refine' ne_of_none ?ha ?hb); (case hb => assumption); (case ha => walk_at "hp")) | ((refine' Ne.symm (ne_of_none ?ha ?hb)); (case hb => assumption); (case ha => walk_at "hp")))
/-- what a dict tells -/
local macro_rules | `(tactic| walk_at "dg") => `(tactic| first | assumption)
/-- a length -/
local macro_rules | `(tactic| walk_at "sz") => `(tactic| first | (show _ ≤ sizeLine; decide) | (show _ < sizeLine; decide) | assumption | exact szlt (by simp) | exact szle (by simp))
/-- a list or tuple that stands -/
local macro_rules | `(tactic| walk_at "lk") => `(tactic| first | assumption | exact SqL.of (by assumption) | exact SqT.of (by assumption) | exact SqL.of upd_same | exact SqT.of upd_same | (refine' FzL.sq ?hm; (case hm => walk_at "fz")))
/-- a list that nobody writes -/
local macro_rules | `(tactic| walk_at "fz") => `(tactic| first | assumption | ((refine' FzL.uw ?hm ?hx); (case hx => walk_at "hp"); (case hm => walk_at "fz")) | ((refine' FzL.nw ?hm ?hx); (case hx => assumption); (case hm => walk_at "fz")))
/-- as far as it goes by itself -/
local macro_rules | `(tactic| walk_at "g") => `(tactic| repeat walk_at "g1")
/-- the body's reading, its places in short -/
local macro_rules | `(tactic| walk_at "go") => `(tactic| ((try dsimp only [cxOf, Cx.nox, Cx.wish]); walk_at "g"))
namespace K3
open PySem PySem.Spec PyProof.Rows L2 Bq
section
variable {P : Program} {w : World} {K : PySem.W.Frag} {mg : Str → Option Value} {base : Heap}
/-- further steps: dicts written, tuples taken apart -/
local macro_rules | `(tactic| walk_at "g1") => `(tactic| first
  | with_reducible refine' g_sdput ?_
  | ((with_reducible refine' g_gtup ?hs ?hl ?_); (case hs => walk_at "lk"); (case hl => rfl))
  | with_reducible refine' g_gcons ?_
  | with_reducible refine' g_gnil ?_
  | with_reducible refine' And.intro (Eq.refl V.non) ?_
  | with_reducible refine' g_isN ?_
  | ((with_reducible refine' g_chainR ?ha ?hb ?hc ?_); (case ha => intro R q; walk_at "g"; exact q); (case hb => intro R q; walk_at "g"; exact q); (case hc => intro R q; walk_at "g"; exact q))
  | with_reducible refine' g_notN ?_)
/-- what the law's dict tells -/
local macro_rules | `(tactic| walk_at "dg") => `(tactic| first
  | assumption
  | exact LH.gfuns (by assumption)
  | exact LH.gsaid (by assumption)
  | exact LH.gcells (by assumption)
  | exact LH.gfuel (by assumption)
  | exact LH.gend (by assumption)
  | exact LH.gcalls (by assumption)
  | exact LH.gnames (by assumption)
  | exact LH.gwaits (by assumption)
  | exact LH.gworth (by assumption)
  | exact LH.glook (by assumption))
/-- a test that fails, that holds, by itself -/
local macro_rules | `(tactic| walk_at "no") => `(tactic| ((refine tkF rfl ?_); walk_at "g"))
local macro_rules | `(tactic| walk_at "yes") => `(tactic| ((refine tkT rfl ?_); walk_at "g"))
local macro_rules | `(tactic| walk_at "g1") => `(tactic| first
  | with_reducible refine' g_catS ?_
  | with_reducible refine' g_mulS ?_
  | with_reducible refine' g_rev ?_)
/-- numbers in lists, more -/
local macro_rules | `(tactic| walk_at "g1") => `(tactic| first
  | with_reducible refine' g_augS ?_
  | with_reducible refine' g_ipI ?_
  | with_reducible refine' g_revL ?_
  | ((with_reducible refine' g_getL ?hs ?he ?_); (case hs => walk_at "lk"); (case he => walk_at "at"))
  | with_reducible refine' g_enum ?_)
open Fl
def dpTh : Th → Nat
  | .p p => dpP p
  | .d d => 1 + dpPs (innerD d)
theorem dp_inner {t : Th} {p : Pt} (h : p ∈ innerT t) : dpP p + 1 ≤ dpTh t := by
  have dpPs_all : ∀ {ps : List Pt} {p : Pt}, p ∈ ps → dpP p ≤ dpPs ps := by
    intro ps
    induction ps with
    | nil => intro p hp; simp at hp
    | cons q r ih =>
      intro p hp
      rcases List.mem_cons.mp hp with rfl | hp
      · exact Nat.le_max_left ..
      · exact Nat.le_trans (ih hp) (Nat.le_max_right ..)
  cases t with
  | p q => cases q with
    | num n => simp [innerT, innerP] at h
    | name i => simp [innerT, innerP] at h
    | bin op a b => simp only [innerT, innerP, List.mem_cons, List.not_mem_nil, or_false] at h; simp only [dpTh, dpP]; rcases h with rfl | rfl <;> omega
    | nt a => simp only [innerT, innerP, List.mem_cons, List.not_mem_nil, or_false] at h; subst h; simp only [dpTh, dpP]; omega
    | get a => simp only [innerT, innerP, List.mem_cons, List.not_mem_nil, or_false] at h; subst h; simp only [dpTh, dpP]; omega
    | call f ps => have := dpPs_all (show p ∈ ps from h); simp only [dpTh, dpP]; omega
  | d d => have := dpPs_all (show p ∈ innerD d from h); simp only [dpTh]; omega
theorem szPs_take_le : ∀ (ps : List Pt) (i : Nat), szPs (ps.take i) ≤ szPs ps
  | _, 0 => by rw [List.take_zero]; simp [szPs]
  | [], _ + 1 => Nat.le_refl _
  | p :: r, i + 1 => by
    have := szPs_take_le r i
    simp only [List.take_succ_cons, szPs]
    omega
theorem ch_own {H0 H H' : Hp} {W : List Addr} (c : Ch K [] H0 H) (d : Ch K W H H') (h : ∀ b ∈ W, H0 b = none) : Ch K [] H0 H' := by
  refine ⟨fun b o e n => d.up b o (c.up b o e n) fun z => ?_, c.kt.trans d.kt⟩
  rw [h b z] at e
  cases e
theorem encPs_at : ∀ {ps : List Pt} {i : Nat} {t : T}, (encPs ps)[i]? = some t → ∃ q, ps[i]? = some q ∧ t = encP q
  | [], i, t, h => by simp [encPs] at h
  | p :: r, 0, t, h => by
    simp [encPs] at h
    exact ⟨p, rfl, h.symm⟩
  | p :: r, i + 1, t, h => by
    obtain ⟨q, a, b⟩ := encPs_at (ps := r) (i := i) (t := t) (by simpa [encPs] using h)
    exact ⟨q, by simpa using a, b⟩
theorem szPs_split {ps : List Pt} {i : Nat} {q : Pt} (h : ps[i]? = some q) : szPs (ps.take i) + szP q ≤ szPs ps := by
  have h1 := szPs_take_le ps (i + 1)
  rw [take_snoc h, szPs_snoc] at h1
  exact h1
theorem kids_reps {H : Hp} (ks : List Nat) : Reps K H (iv (ks.map fun k => ((k : Nat) : Int))) (ks.map fun k => T.int (k : Nat)) := by
  induction ks with
  | nil => exact .nil
  | cons k r ih => exact .cons (.int _) ih
def spLay (K : PySem.W.Frag) (n : Nat) : Sp := fun vs H Q _ => ∃ v t fl es E, vs = [v, .ref fl] ∧ Rep K H v (encT t) ∧ dpTh t ≤ n ∧ H fl = some (.lst es) ∧ Reps K H es (E.map leT) ∧ E.length + szPs (innerT t) ≤ 1000 ∧
  ∀ H' es', Ch K [fl] H H' → H' fl = some (.lst es') → Reps K H' es' ((E ++ layT t E.length).map leT) → Q (.int ((E.length + szPs (innerT t) : Nat) : Int)) H'
theorem lay_step (C : Cn w K mg base) (k n : Nat) (hk : 2 ≤ k) {sp : Sp} (F_lay : Fn P w K mg base CX0 k "lay" ["thing", "found"] sp) (hsp : ∀ m, n = m + 1 → ∀ vs H Q E, spLay K m vs H Q E → sp vs H Q E) : Fn P w K mg base CX0 (k + 1) "lay" ["thing", "found"] (spLay K n) := C.f_lay fun fd F => by
  have F_parts_of : Fn P w K mg base CX0 2 "parts_of" ["thing"] (spInner K) := fn_parts C
  have F_row_of : Fn P w K mg base CX0 1 "row_of" ["thing"] (spRowOf K) := fn_row_of C
  refine F.ok (CX := CX0) sc_lay (fun vs H Q E h => ?_) (fun cdv A outer s H vs Q E hr h => ?_)
  · obtain ⟨v, t, fl, es, E, rfl, _⟩ := h
    rfl
  · obtain ⟨v, t, fl, es, E, rfl, rep, dp, efl, re, sz, q⟩ := h
    refine ⟨_, PSs.nox (pss_cons (ps_set (i := 2) sc_lay.nd rfl (Or.inl rfl) (pe_lstC pa_nil))
      (pss_cons (ps_for PassesOwn.never rfl (pi_list (pe_fn F_parts_of (rmm hr) (by rfl) pass0 (pa_cons (pv 0) pa_nil))) (pg_name (i := 3) sc_lay.nd rfl (Or.inl rfl)) (pss_one (ps_expr (pe_bm PySem.F.plainAttrs_list PySem.F.slot_list_append PySem.F.type_list_append mt_append (pv 2) (pa_cons (pe_fn F_lay (rmm hr) (by rfl) pass0 (pa_cons (pv 3) (pa_cons (pv 1) pa_nil))) pa_nil)))))
      (pss_cons (ps_expr (pe_bm PySem.F.plainAttrs_list PySem.F.slot_list_append PySem.F.type_list_append mt_append (pv 1) (pa_cons (pe_tupC (pa_cons (pe_fn F_row_of (rmm hr) (by rfl) pass0 (pa_cons (pv 0) pa_nil)) (pa_cons (pe_callTy call_tuple_of (by rfl) (C.m_tuple) (by decide +kernel) (pa_cons (pv 2) pa_nil)) pa_nil))) pa_nil)))
      (pss_one (ps_ret (pe_op op_sub (pe_callB call_len_seq (by rfl) (C.m_len) PySem.boot_len (pa_cons (pv 1) pa_nil)) pe_int)))))), ?_⟩
    have le : es.length = E.length := by rw [re.len, List.length_map]
    walk_at "go"
    refine ⟨szle (by simp), fun wl H1 n1 e1 c1 => ?_⟩
    have nwf : wl ≠ fl := fun e => by rw [e, efl] at n1; cases n1
    walk_at "g"
    refine ⟨v, t, rfl, rep.kt c1.kt, fun H2 l us c2 n2 e2 r2 => ?_⟩
    have c12 := c1.trans c2
    have nlf : l ≠ fl := fun e => by rw [e, c1.up _ _ efl (by simp)] at n2; cases n2
    have nlw : l ≠ wl := fun e => by rw [e, e1] at n2; cases n2
    have lu : us.length = (innerT t).length := by rw [r2.len]; exact encPs_len _
    walk_at "g"
    refine ⟨⟨_, SqL.of e2⟩, for_it (walk_list (xs := us)) (fun i σ' H' => ∃ x3 es', σ' = [some v, some (.ref fl), some (.ref wl), x3] ∧ Ch K [fl, wl] H2 H' ∧ H' fl = some (.lst es') ∧ Reps K H' es' ((E ++ layPs ((innerT t).take i) E.length).map leT) ∧ H' wl = some (.lst (iv ((kidsOf ((innerT t).take i) E.length).map fun k => ((k : Nat) : Int))))) ⟨none, es, rfl, Ch.refl, c12.up _ _ efl (by simp), by rw [List.take_zero]; simp only [layPs, List.append_nil]; exact re.kt c12.kt, by rw [List.take_zero, c2.up _ _ e1 (by simp)]; rfl⟩ (fun i σ' H' _ ⟨_, _, _, c, _⟩ => c.sqL (SqL.of e2) (by simp; exact ⟨nlf, nlw⟩)) ?_ ?_⟩
    · rintro i x σ _ H3 hi ⟨x3, es3, rfl, c3, e3, r3, w3⟩ ⟨rfl, hx⟩
      obtain ⟨t1, ht1, rt1⟩ := r2.get hx
      obtain ⟨p, hp, rfl⟩ := encPs_at ht1
      have dpp := dp_inner (List.mem_of_getElem? hp)
      have ss := szPs_split hp
      have kl := kidsOf_len ((innerT t).take i) E.length
      have hil : i < (innerT t).length := by omega
      have tl : ((innerT t).take i).length ≤ szPs ((innerT t).take i) := by
        have : ∀ ps : List Pt, ps.length ≤ szPs ps := by
          intro ps
          induction ps with
          | nil => simp [szPs]
          | cons a r ih => have := szP_pos a; simp only [List.length_cons, szPs]; omega
        exact this _
      have len3 : (E ++ layPs ((innerT t).take i) E.length).length = E.length + szPs ((innerT t).take i) := by rw [List.length_append, layPs_len]
      have szp : szPs (innerT (.p p)) + 1 = szP p := by
        have := layT_len (.p p) 0
        rw [layT_p, layP_len] at this
        exact this.symm
      walk_at "g"
      refine hsp (n - 1) (by omega) _ _ _ _ ⟨x, .p p, fl, es3, E ++ layPs ((innerT t).take i) E.length, rfl, rt1.kt c3.kt, by show dpP p ≤ _; omega, e3, r3, by rw [len3]; omega, fun H4 es4 c4 e4 r4 => ?_⟩
      rw [len3] at r4 ⊢
      have w4 := c4.up _ _ w3 (by simpa using nwf)
      have hz : (iv ((kidsOf ((innerT t).take i) E.length).map fun k => ((k : Nat) : Int))).length < sizeLine := by rw [iv_len, List.length_map, kl, sizeLine_eq]; omega
      walk_at "g"
      have c5 : Ch K [wl] H4 (upd H4 wl (.lst (iv ((kidsOf ((innerT t).take i) E.length).map fun k => ((k : Nat) : Int)) ++ [V.int ((E.length + szPs ((innerT t).take i) + szPs (innerT (.p p)) : Nat) : Int)]))) := Ch.wrL w4 (by simp)
      refine ⟨_, es4, rfl, (c3.trans (c4.mono (by simp))).trans (c5.mono (by simp)), c5.up _ _ e4 (by simpa using nwf.symm), ?_, ?_⟩
      · rw [take_snoc hp, layPs_snoc, ← List.append_assoc, ← layT_p]
        exact r4.kt c5.kt
      · rw [upd_same, take_snoc hp, kidsOf_snoc]
        simp only [iv, List.map_append, List.map_cons, List.map_nil]
        rw [show E.length + szPs ((innerT t).take i) + szPs (innerT (.p p)) = E.length + szPs ((innerT t).take i) + szP p - 1 by omega]
    · rintro σ H3 ⟨x3, es3, rfl, c3, e3, r3, w3⟩
      rw [lu, List.take_length] at r3 w3
      have c13 : Ch K [fl, wl] H H3 := (c12.mono (by simp)).trans c3
      walk_at "g"
      refine ⟨v, t, rfl, rep.kt c13.kt, fun H4 rv c4 r4 => ?_⟩
      have w4 := c4.up _ _ w3 (by simp)
      walk_at "g"
      refine ⟨wl, _, rfl, .inl ⟨SqL.of w4, fun tp ntp => ?_⟩⟩
      have c5 : Ch K [] H4 (upd H4 tp (.tup (iv ((kidsOf (innerT t) E.length).map fun k => ((k : Nat) : Int))))) := Ch.new ntp
      have e5 : (upd H4 tp (.tup (iv ((kidsOf (innerT t) E.length).map fun k => ((k : Nat) : Int))))) tp = some (.tup (iv ((kidsOf (innerT t) E.length).map fun k => ((k : Nat) : Int)))) := upd_same
      generalize upd H4 tp (.tup (iv ((kidsOf (innerT t) E.length).map fun k => ((k : Nat) : Int)))) = H5 at c5 e5 ⊢
      walk_at "g"
      refine ⟨szle (by simp), fun ep H6 n6 e6 c6 => ?_⟩
      have c46 := (c4.trans c5).trans c6
      have ef6 := c46.up _ _ e3 (by simp)
      have hl3 : es3.length = E.length + szPs (innerT t) := by rw [r3.len, List.length_map, List.length_append, layPs_len]
      have hz : es3.length < sizeLine := by rw [hl3, sizeLine_eq]; omega
      have nfw : fl ≠ wl := nwf.symm
      walk_at "g"
      have c7 : Ch K [fl] H6 (upd H6 fl (.lst (es3 ++ [.ref ep]))) := Ch.wrL ef6 (by simp)
      have e7 : (upd H6 fl (.lst (es3 ++ [.ref ep]))) fl = some (.lst (es3 ++ [.ref ep])) := upd_same
      generalize upd H6 fl (.lst (es3 ++ [.ref ep])) = H7 at c7 e7 ⊢
      have hfl7 : SqL K H7 fl (es3 ++ [.ref ep]) := SqL.of e7
      walk_at "g"
      have c17 : Ch K [fl] H H7 := by
        have c : Ch K [fl, wl] H H7 := (c13.trans (c46.mono (by simp))).trans (c7.mono (by simp))
        refine ⟨fun b o hb nn => c.up b o hb fun z => ?_, c.kt⟩
        simp only [List.mem_cons, List.not_mem_nil, or_false] at z nn
        rcases z with z | z
        · exact nn z
        · rw [z, n1] at hb; cases hb
      rw [show (((es3 ++ [V.ref ep]).length : Nat) : Int) - 1 = ((E.length + szPs (innerT t) : Nat) : Int) by rw [List.length_append, hl3]; simp]
      refine q H7 _ c17 e7 ?_
      unfold layT
      rw [← List.append_assoc, List.map_append]
      refine reps_snoc (r3.kt (c46.kt.trans c7.kt)) ?_
      exact .tup (c7.kt.t _ _ (SqT.of e6)) (.cons (r4.kt ((c5.kt.trans c6.kt).trans c7.kt)) (.cons (.tup ((c6.kt.trans c7.kt).t _ _ (SqT.of e5)) (kids_reps _)) .nil))
theorem fn_lay (C : Cn w K mg base) : ∀ n : Nat, Fn P w K mg base CX0 (n + 3) "lay" ["thing", "found"] (spLay K n)
  | 0 => lay_step C 2 0 (by decide) (sp := fun _ _ _ _ => False) (C.f_lay fun fd F => ⟨fun _ _ _ _ h => h.elim, fun _ _ _ _ _ _ _ _ _ _ _ _ _ h => h.elim⟩) fun m h => by omega
  | n + 1 => lay_step C (n + 3) (n + 1) (by omega) (fn_lay C n) fun m e _ _ _ _ h => by
    have : m = n := by omega
    rw [← this]
    exact h
theorem dpPs_sz2 (ps : List Pt) : dpPs ps ≤ szPs ps := dpPs_sz ps
def layD (d : Dd) : List LE := layT (.d d) 0
def spLayers (K : PySem.W.Frag) : Sp := fun vs H Q _ => ∃ v d ps, vs = [v] ∧ Rep K H v (encDd d) ∧ WfDd ps d ∧ szPs (innerD d) ≤ 40 ∧ ∀ H' l es, Ch K [] H H' → H l = none → H' l = some (.lst es) → Reps K H' es ((layD d).map leT) → Q (.ref l) H'
theorem fn_layers (C : Cn w K mg base) : Fn P w K mg base CX0 45 "layers" ["deed"] (spLayers K) := C.f_layers fun fd F => by
  have F_check_deed : Fn P w K mg base CX0 5 "check_deed" ["deed"] (spCheckD K) := fn_check_deed C
  have F_lay : Fn P w K mg base CX0 44 "lay" ["thing", "found"] (spLay K 41) := fn_lay C 41
  refine F.ok (CX := CX0) sc_layers (fun vs H Q E h => ?_) (fun cdv A outer s H vs Q E hr h => ?_)
  · obtain ⟨v, d, ps, rfl, _⟩ := h
    rfl
  · obtain ⟨v, d, ps, rfl, rep, W, sz, q⟩ := h
    refine ⟨_, PSs.nox (pss_cons (ps_expr (pe_fn F_check_deed (rmm hr) (by rfl) pass0 (pa_cons (pv 0) pa_nil)))
      (pss_cons (ps_set (i := 1) sc_layers.nd rfl (Or.inl rfl) (pe_lstC pa_nil))
      (pss_cons (ps_expr (pe_fn F_lay (rmm hr) (by rfl) pass0 (pa_cons (pv 0) (pa_cons (pv 1) pa_nil))))
      (pss_one (ps_ret (pv 1)))))), ?_⟩
    walk_at "go"
    refine ⟨v, d, ps, rfl, rep, W, fun H1 c1 => ?_⟩
    walk_at "g"
    refine ⟨szle (by simp), fun l H2 n2 e2 c2 => ?_⟩
    have c12 := c1.trans c2
    walk_at "g"
    refine ⟨v, .d d, l, [], [], rfl, rep.kt c12.kt, by show 1 + dpPs (innerD d) ≤ 41; have := dpPs_sz (innerD d); omega, e2, .nil, by show 0 + szPs (innerD d) ≤ 1000; omega, fun H3 es3 c3 e3 r3 => ?_⟩
    walk_at "g"
    exact q H3 l es3 (ch_own c12 c3 (by simpa using c1.free n2 (by simp))) (c1.free n2 (by simp)) e3 r3
end
end K3
end

section
set_option maxRecDepth 100000
set_option maxHeartbeats 1000000
open Bq L2
/-- one step of a reading; what is left are side goals and places to think -/
local macro_rules | `(tactic| walk_at "g1") => `(tactic| first
  | with_reducible refine' g_seq ?_ | with_reducible refine' g_asg ?_ | with_reducible refine' g_drop ?_ | with_reducible refine' g_ret ?_ | with_reducible refine' g_ifS ?_ | with_reducible refine' g_asgG ?_
  | ((with_reducible refine' g_var ?hv ?_); (case hv => rfl))
  | with_reducible refine' g_c ?_ | with_reducible refine' g_op ?_ | with_reducible refine' g_un ?_ | with_reducible refine' g_I0 ?_ | with_reducible refine' g_U ?_
  | with_reducible refine' g_test ?_ | with_reducible refine' g_tB ?_ | with_reducible refine Exists.intro _ (And.intro rfl ?_) 
  | ((with_reducible refine' g_andP ?ha ?hb ?_); (case ha => intro R q; walk_at "g"; exact q); (case hb => intro R q; walk_at "g"; exact q))
  | ((with_reducible refine' g_orP ?ha ?hb ?_); (case ha => intro R q; walk_at "g"; exact q); (case hb => intro R q; walk_at "g"; exact q))
  | with_reducible refine' g_and ?_ | with_reducible refine' g_or ?_ | with_reducible refine' g_not ?_
  | with_reducible refine' g_andV ?_ | with_reducible refine' g_orV ?_ | with_reducible refine' g_notV ?_ | with_reducible refine' g_if ?_ | with_reducible refine' g_nil ?_ | with_reducible refine' g_cons ?_
  | with_reducible refine' g_tup ?_ | with_reducible refine' g_lst ?_ | with_reducible refine' g_CB ?_ | with_reducible refine' g_Fn ?_ | with_reducible refine' g_next ?_ | with_reducible refine' g_retN ?_
  | with_reducible refine' g_name ?_ | with_reducible refine' g_sub ?_
  | ((with_reducible refine' g_ixL ?hs ?he ?_); (case hs => walk_at "lk"); (case he => walk_at "at"))
  | ((with_reducible refine' g_ixT ?hs ?he ?_); (case hs => walk_at "lk"); (case he => walk_at "at"))
  | ((with_reducible refine' g_setL ?hs ?he ?_); (case hs => walk_at "hp"); (case he => rfl))
  | ((with_reducible refine' g_app ?hs ?hz ?_); (case hs => walk_at "hp"); (case hz => walk_at "sz"))
  | ((with_reducible refine' ⟨_, _, rfl, Or.inl ?hs, ?_⟩); (case hs => walk_at "lk"))
  | ((with_reducible refine' ⟨_, _, rfl, Or.inr ?hs, ?_⟩); (case hs => walk_at "lk"))
  | with_reducible refine' g_BM ?_ | with_reducible refine' g_BM0 ?_ | ((with_reducible refine' g_tyL ?hs ?_); (case hs => walk_at "lk"))
  | with_reducible refine' g_sl ?_ | with_reducible refine' g_noPart ?_ | with_reducible refine' g_part ?_
  | ((with_reducible refine' g_inT ?hs ?fx ?fs ?_); (case hs => walk_at "lk"); (case fx => rfl); (case fs => rfl))
  | with_reducible refine' g_pair ?_ | with_reducible refine' g_pair0 ?_ | with_reducible refine' g_disp ?_
  | with_reducible refine' g_for ?_ | with_reducible refine' g_tupC ?_ | with_reducible refine' g_lstC ?_ | ((with_reducible refine' g_lens ?_)) | with_reducible refine' g_dg ?_ | with_reducible refine' g_lc ?_ | with_reducible refine' g_rng1 ?_ | with_reducible refine' g_ilist ?_ | with_reducible refine' g_itup ?_
  | ((with_reducible refine' ⟨_, _, rfl, ?hd, ?_⟩); (case hd => walk_at "dg"))
  | ((with_reducible refine' g_eqNil ?hs ?hz ?_); (case hs => walk_at "lk"); (case hz => walk_at "lk"))
  | ((with_reducible refine' g_neNil ?hs ?hz ?_); (case hs => walk_at "lk"); (case hz => walk_at "lk"))
  | with_reducible refine Or.inl ⟨_, rfl, ?_⟩
  | with_reducible refine Or.inr ⟨_, rfl, ?_⟩
  | ((with_reducible refine' g_eq ?hs ?_); (case hs => rfl))
  | ((with_reducible refine' g_ne ?hs ?_); (case hs => rfl))
  | ((with_reducible refine' g_I ?hc ?_); (case hc => walk_at "ar")))
/-- arithmetic's side conditions -/
local macro_rules | `(tactic| walk_at "ar") => `(tactic| (first
  | (show (0 : Int) < _; first | omega | decide) | (show (0 : Int) < _ ∧ _; constructor <;> omega) | (show ¬ (_ : Int) = _; omega) | (show (_ : Int) ≠ _ ∧ _; constructor <;> omega)
  | (show (-(2 ^ 64) < _ ∧ _) ∨ _; (first | (left; constructor <;> omega) | (right; constructor <;> omega))) | (show (0 : Int) ≤ _ ∧ _ ∧ _; refine ⟨by omega, by omega, by decide⟩)))
/-- what stands at an index -/
local macro_rules | `(tactic| walk_at "at") => `(tactic| first | rfl | assumption)
/-- what stands at an address -/
local macro_rules | `(tactic| walk_at "hp") => `(tactic| first | assumption | exact upd_same | ((refine' Eq.trans (upd_ne ?hn) ?hm); (case hm => walk_at "hp"); (case hn => walk_at "ne")))
/-- two places are two -/
local macro_rules | `(tactic| walk_at "ne") => `(tactic| first
  | assumption | exact Ne.symm (by assumption)
  | ((refine' ne_of_none ?ha ?hb); (case hb => assumption); (case ha => walk_at "hp")) | ((refine' Ne.symm (ne_of_none ?ha ?hb)); (case hb => assumption); (case ha => walk_at "hp")))
/-- what a dict tells -/
local macro_rules | `(tactic| walk_at "dg") => `(tactic| first | assumption)
/-- a length -/
local macro_rules | `(tactic| walk_at "sz") => `(tactic| first | (show _ ≤ sizeLine; decide) | (show _ < sizeLine; decide) | assumption | exact szlt (by simp) | exact szle (by simp))
/-- a list or tuple that stands -/
local macro_rules | `(tactic| walk_at "lk") => `(tactic| first | assumption | exact SqL.of (by assumption) | exact SqT.of (by assumption) | exact SqL.of upd_same | exact SqT.of upd_same | (refine' FzL.sq ?hm; (case hm => walk_at "fz")))
/-- a list that nobody writes -/
local macro_rules | `(tactic| walk_at "fz") => `(tactic| first | assumption | ((refine' FzL.uw ?hm ?hx); (case hx => walk_at "hp"); (case hm => walk_at "fz")) | ((refine' FzL.nw ?hm ?hx); (case hx => assumption); (case hm => walk_at "fz")))
/-- as far as it goes by itself -/
local macro_rules | `(tactic| walk_at "g") => `(tactic| repeat walk_at "g1")
/-- the body's reading, its places in short -/
local macro_rules | `(tactic| walk_at "go") => `(tactic| ((try dsimp only [cxOf, Cx.nox, Cx.wish]); walk_at "g"))
namespace K3
open PySem PySem.Spec PyProof.Rows L2 Bq
section
variable {P : Program} {w : World} {K : PySem.W.Frag} {mg : Str → Option Value} {base : Heap}
/-- further steps: dicts written, tuples taken apart -/
local macro_rules | `(tactic| walk_at "g1") => `(tactic| first
  | with_reducible refine' g_sdput ?_
  | ((with_reducible refine' g_gtup ?hs ?hl ?_); (case hs => walk_at "lk"); (case hl => rfl))
  | with_reducible refine' g_gcons ?_
  | with_reducible refine' g_gnil ?_
  | with_reducible refine' And.intro (Eq.refl V.non) ?_
  | with_reducible refine' g_isN ?_
  | ((with_reducible refine' g_chainR ?ha ?hb ?hc ?_); (case ha => intro R q; walk_at "g"; exact q); (case hb => intro R q; walk_at "g"; exact q); (case hc => intro R q; walk_at "g"; exact q))
  | with_reducible refine' g_notN ?_)
/-- what the law's dict tells -/
local macro_rules | `(tactic| walk_at "dg") => `(tactic| first
  | assumption
  | exact LH.gfuns (by assumption)
  | exact LH.gsaid (by assumption)
  | exact LH.gcells (by assumption)
  | exact LH.gfuel (by assumption)
  | exact LH.gend (by assumption)
  | exact LH.gcalls (by assumption)
  | exact LH.gnames (by assumption)
  | exact LH.gwaits (by assumption)
  | exact LH.gworth (by assumption)
  | exact LH.glook (by assumption))
/-- a test that fails, that holds, by itself -/
local macro_rules | `(tactic| walk_at "no") => `(tactic| ((refine tkF rfl ?_); walk_at "g"))
local macro_rules | `(tactic| walk_at "yes") => `(tactic| ((refine tkT rfl ?_); walk_at "g"))
local macro_rules | `(tactic| walk_at "g1") => `(tactic| first
  | with_reducible refine' g_catS ?_
  | with_reducible refine' g_mulS ?_
  | with_reducible refine' g_rev ?_)
/-- numbers in lists, more -/
local macro_rules | `(tactic| walk_at "g1") => `(tactic| first
  | with_reducible refine' g_augS ?_
  | with_reducible refine' g_ipI ?_
  | with_reducible refine' g_revL ?_
  | ((with_reducible refine' g_getL ?hs ?he ?_); (case hs => walk_at "lk"); (case he => walk_at "at"))
  | with_reducible refine' g_enum ?_)
open Fl
/-! ### who is around whom -/
def kidsAll : List LE → List Nat
  | [] => []
  | e :: r => e.kids ++ kidsAll r
theorem kidsAll_app : ∀ a b : List LE, kidsAll (a ++ b) = kidsAll a ++ kidsAll b
  | [], _ => rfl
  | e :: r, b => by simp only [List.cons_append, kidsAll, kidsAll_app r b, List.append_assoc]
def KidsP (p : Pt) : Prop := ∀ b : Nat, (kidsAll (layP p b) ++ [b + szP p - 1]).Perm (List.range' b (szP p))
theorem kids_list : ∀ (ps : List Pt), (∀ p ∈ ps, KidsP p) → ∀ b : Nat, (kidsAll (layPs ps b) ++ kidsOf ps b).Perm (List.range' b (szPs ps))
  | [], _, b => by simp [layPs, kidsAll, kidsOf, szPs]
  | p :: r, h, b => by
    have h1 := h p (by simp) b
    have h2 := kids_list r (fun q hq => h q (by simp [hq])) (b + szP p)
    have e : (kidsAll (layPs (p :: r) b) ++ kidsOf (p :: r) b) = kidsAll (layP p b) ++ (kidsAll (layPs r (b + szP p)) ++ (b + szP p - 1) :: kidsOf r (b + szP p)) := by
      simp only [layPs, kidsAll_app, kidsOf, List.append_assoc]
    rw [e]
    have e2 : List.range' b (szPs (p :: r)) = List.range' b (szP p) ++ List.range' (b + szP p) (szPs r) := by
      simp only [szPs]
      rw [List.range'_append_1]
    rw [e2]
    refine List.Perm.trans ?_ (h1.append h2)
    rw [List.append_assoc]
    refine List.Perm.append_left _ ?_
    refine List.Perm.trans List.perm_middle ?_
    exact List.Perm.refl _
theorem kids_T1 (p : Pt) (h : ∀ q ∈ innerP p, KidsP q) : KidsP p := by
  intro b
  have h := kids_list (innerP p) h b
  have hs : szP p = szPs (innerP p) + 1 := by
    have := layT_len (.p p) b
    rw [layT_p, layP_len] at this
    exact this
  have e1 : kidsAll (layP p b) = kidsAll (layPs (innerP p) b) ++ kidsOf (innerP p) b := by
    rw [← layT_p]
    unfold layT
    rw [kidsAll_app]
    simp [kidsAll, innerT]
  rw [e1, hs, List.range'_concat]
  refine h.append ?_
  rw [show b + (szPs (innerP p) + 1) - 1 = b + 1 * szPs (innerP p) by omega]
mutual
theorem kids_P : ∀ (p : Pt), KidsP p
  | .num n => kids_T1 (.num n) (by simp [innerP])
  | .name i => kids_T1 (.name i) (by simp [innerP])
  | .bin op x y => by
    have hx := kids_P x
    have hy := kids_P y
    refine kids_T1 (.bin op x y) (fun q hq => ?_)
    simp only [innerP, List.mem_cons, List.not_mem_nil, or_false] at hq
    rcases hq with hq | hq
    · rw [hq]; exact hx
    · rw [hq]; exact hy
  | .nt x => by
    have hx := kids_P x
    refine kids_T1 (.nt x) (fun q hq => ?_)
    simp only [innerP, List.mem_cons, List.not_mem_nil, or_false] at hq
    rw [hq]
    exact hx
  | .get x => by
    have hx := kids_P x
    refine kids_T1 (.get x) (fun q hq => ?_)
    simp only [innerP, List.mem_cons, List.not_mem_nil, or_false] at hq
    rw [hq]
    exact hx
  | .call f ps => kids_T1 (.call f ps) (kids_all ps)
theorem kids_all : ∀ (ps : List Pt), ∀ p ∈ ps, KidsP p
  | [] => fun p h => by simp at h
  | q :: r => by
    have hq := kids_P q
    have hr := kids_all r
    intro p h
    rcases List.mem_cons.mp h with h | h
    · rw [h]; exact hq
    · exact hr p h
end
theorem kids_Ps (ps : List Pt) (b : Nat) : (kidsAll (layPs ps b) ++ kidsOf ps b).Perm (List.range' b (szPs ps)) := kids_list ps (kids_all ps) b
theorem kids_D (d : Dd) : (kidsAll (layD d)).Perm (List.range' 0 (szPs (innerD d))) := by
  have e1 : kidsAll (layD d) = kidsAll (layPs (innerD d) 0) ++ kidsOf (innerD d) 0 := by
    unfold layD layT
    rw [kidsAll_app]
    simp [kidsAll, innerT]
  rw [e1]
  exact kids_Ps (innerD d) 0
/-- kids stand ahead -/
def Ahead (b : Nat) (E : List LE) : Prop := ∀ (i : Nat) (e : LE), E[i]? = some e → ∀ k ∈ e.kids, k < b + i
theorem Ahead.app {b : Nat} {E F : List LE} (h : Ahead b E) (g : Ahead (b + E.length) F) : Ahead b (E ++ F) := by
  intro i e hi k hk
  by_cases hlt : i < E.length
  · rw [List.getElem?_append_left hlt] at hi
    exact h i e hi k hk
  · rw [List.getElem?_append_right (by omega)] at hi
    have := g _ e hi k hk
    omega
theorem kidsOf_lt : ∀ (ps : List Pt) (b k : Nat), k ∈ kidsOf ps b → k < b + szPs ps
  | p :: r, b, k, h => by
    have := szP_pos p
    rcases List.mem_cons.mp h with rfl | h
    · simp only [szPs]; omega
    · have := kidsOf_lt r _ k h
      simp only [szPs]
      omega
theorem ahead_one {b : Nat} {e : LE} (h : ∀ k ∈ e.kids, k < b) : Ahead b [e] := by
  intro i e' hi k hk
  cases i with
  | zero =>
    simp at hi
    subst hi
    have := h k hk
    omega
  | succ i => simp at hi
theorem ahead_list : ∀ (ps : List Pt), (∀ p ∈ ps, ∀ b, Ahead b (layP p b)) → ∀ b, Ahead b (layPs ps b)
  | [], _, b => by intro i e hi; simp [layPs] at hi
  | p :: r, h, b => by
    refine (h p (by simp) b).app ?_
    rw [layP_len]
    exact ahead_list r (fun q hq => h q (by simp [hq])) _
theorem ahead_T (t : Th) (b : Nat) (h : Ahead b (layPs (innerT t) b)) : Ahead b (layT t b) := by
  refine h.app (ahead_one fun k hk => ?_)
  rw [layPs_len]
  exact kidsOf_lt _ _ _ hk
theorem ahead_1 (p : Pt) (h : ∀ q ∈ innerP p, ∀ b, Ahead b (layP q b)) (b : Nat) : Ahead b (layP p b) := by
  rw [← layT_p]
  exact ahead_T (.p p) b (ahead_list (innerP p) h b)
mutual
theorem ahead_P : ∀ (p : Pt) (b : Nat), Ahead b (layP p b)
  | .num n, b => ahead_1 (.num n) (by simp [innerP]) b
  | .name i, b => ahead_1 (.name i) (by simp [innerP]) b
  | .bin op x y, b => by
    have hx := ahead_P x
    have hy := ahead_P y
    refine ahead_1 (.bin op x y) (fun q hq => ?_) b
    simp only [innerP, List.mem_cons, List.not_mem_nil, or_false] at hq
    rcases hq with hq | hq
    · rw [hq]; exact hx
    · rw [hq]; exact hy
  | .nt x, b => by
    have hx := ahead_P x
    refine ahead_1 (.nt x) (fun q hq => ?_) b
    simp only [innerP, List.mem_cons, List.not_mem_nil, or_false] at hq
    rw [hq]
    exact hx
  | .get x, b => by
    have hx := ahead_P x
    refine ahead_1 (.get x) (fun q hq => ?_) b
    simp only [innerP, List.mem_cons, List.not_mem_nil, or_false] at hq
    rw [hq]
    exact hx
  | .call f ps, b => ahead_1 (.call f ps) (ahead_all ps) b
theorem ahead_all : ∀ (ps : List Pt), ∀ p ∈ ps, ∀ b, Ahead b (layP p b)
  | [] => fun p h => by simp at h
  | q :: r => by
    have hq := ahead_P q
    have hr := ahead_all r
    intro p h
    rcases List.mem_cons.mp h with h | h
    · rw [h]; exact hq
    · exact hr p h
end
theorem ahead_Ps (ps : List Pt) (b : Nat) : Ahead b (layPs ps b) := ahead_list ps (ahead_all ps) b
def parF : List LE → Nat → (Nat → Nat) → (Nat → Nat)
  | [], _, f => f
  | e :: r, i, f => parF r (i + 1) (e.kids.foldl (fun g k => fupd g k i) f)
def parE (E : List LE) : Nat → Nat := parF E 0 fun _ => 0
theorem fold_out {i k : Nat} : ∀ {l : List Nat} {f : Nat → Nat}, k ∉ l → l.foldl (fun g k => fupd g k i) f k = f k
  | [], f, _ => rfl
  | a :: r, f, h => by
    rw [List.foldl_cons, fold_out fun z => h (by simp [z]), fupd_ne fun z => h (by simp [z])]
theorem fold_in {i k : Nat} : ∀ {l : List Nat} {f : Nat → Nat}, k ∈ l → l.foldl (fun g k => fupd g k i) f k = i
  | a :: r, f, h => by
    rw [List.foldl_cons]
    by_cases hr : k ∈ r
    · exact fold_in hr
    · rcases List.mem_cons.mp h with rfl | h
      · rw [fold_out hr, fupd_same]
      · exact (hr h).elim
theorem parF_out {k : Nat} : ∀ {E : List LE} {i : Nat} {f : Nat → Nat}, k ∉ kidsAll E → parF E i f k = f k
  | [], i, f, _ => rfl
  | e :: r, i, f, h => by
    simp only [kidsAll, List.mem_append, not_or] at h
    rw [parF, parF_out h.2, fold_out h.1]
theorem parF_in {k : Nat} : ∀ {E : List LE} {i j : Nat} {f : Nat → Nat} {e : LE}, (kidsAll E).Nodup → E[j]? = some e → k ∈ e.kids → parF E i f k = i + j
  | e0 :: r, i, 0, f, e, nd, h, hk => by
    simp at h
    subst h
    simp only [kidsAll, List.nodup_append] at nd
    rw [parF, parF_out (fun z => nd.2.2 k hk k z rfl), fold_in hk, Nat.add_zero]
  | e0 :: r, i, j + 1, f, e, nd, h, hk => by
    simp only [kidsAll, List.nodup_append] at nd
    rw [parF, parF_in nd.2.1 (by simpa using h) hk]
    omega
theorem kidsAll_mem {k : Nat} : ∀ {E : List LE}, k ∈ kidsAll E → ∃ (j : Nat) (e : LE), E[j]? = some e ∧ k ∈ e.kids
  | e :: r, h => by
    simp only [kidsAll, List.mem_append] at h
    rcases h with h | h
    · exact ⟨0, e, rfl, h⟩
    · obtain ⟨j, e', a, b⟩ := kidsAll_mem h
      exact ⟨j + 1, e', by simpa using a, b⟩
/-- a layer: each but the last within just one that stands behind it -/
structure OkLE (E : List LE) : Prop where
  n1 : 1 ≤ E.length
  n2 : E.length ≤ 1000
  nd : (kidsAll E).Nodup
  mem : ∀ k, k ∈ kidsAll E ↔ k < E.length - 1
  ah : Ahead 0 E
theorem okLE_D {d : Dd} (h : szPs (innerD d) ≤ 40) : OkLE (layD d) := by
  have hp := kids_D d
  have hl : (layD d).length = szPs (innerD d) + 1 := layT_len (.d d) 0
  refine ⟨by omega, by omega, hp.nodup_iff.mpr List.nodup_range', fun k => ?_, ahead_T (.d d) 0 (ahead_Ps _ 0)⟩
  rw [hp.mem_iff, List.mem_range'_1, hl]
  omega
theorem OkLE.par {E : List LE} (o : OkLE E) {k : Nat} (h : k < E.length - 1) : ∃ e, E[parE E k]? = some e ∧ k ∈ e.kids ∧ k < parE E k ∧ parE E k < E.length := by
  obtain ⟨j, e, h1, h2⟩ := kidsAll_mem ((o.mem k).mpr h)
  have h3 := parF_in (i := 0) (f := fun _ => 0) o.nd h1 h2
  have h4 := o.ah j e h1 k h2
  have h5 := (List.getElem?_eq_some_iff.mp h1).1
  have h6 : parE E k = j := by unfold parE; omega
  rw [h6]
  exact ⟨e, h1, h2, by omega, h5⟩
end
end K3
end

section
set_option maxRecDepth 100000
set_option maxHeartbeats 1000000
open Bq L2
/-- one step of a reading; what is left are side goals and places to think -/
local macro_rules | `(tactic| walk_at "g1") => `(tactic| first
  | with_reducible refine' g_seq ?_ | with_reducible refine' g_asg ?_ | with_reducible refine' g_drop ?_ | with_reducible refine' g_ret ?_ | with_reducible refine' g_ifS ?_ | with_reducible refine' g_asgG ?_
  | ((with_reducible refine' g_var ?hv ?_); (case hv => rfl))
  | with_reducible refine' g_c ?_ | with_reducible refine' g_op ?_ | with_reducible refine' g_un ?_ | with_reducible refine' g_I0 ?_ | with_reducible refine' g_U ?_
  | with_reducible refine' g_test ?_ | with_reducible refine' g_tB ?_ | with_reducible refine Exists.intro _ (And.intro rfl ?_) 
  | ((with_reducible refine' g_andP ?ha ?hb ?_); (case ha => intro R q; walk_at "g"; exact q); (case hb => intro R q; walk_at "g"; exact q))
  | ((with_reducible refine' g_orP ?ha ?hb ?_); (case ha => intro R q; walk_at "g"; exact q); (case hb => intro R q; walk_at "g"; exact q))
  | with_reducible refine' g_and ?_ | with_reducible refine' g_or ?_ | with_reducible refine' g_not ?_
  | with_reducible refine' g_andV ?_ | with_reducible refine' g_orV ?_ | with_reducible refine' g_notV ?_ | with_reducible refine' g_if ?_ | with_reducible refine' g_nil ?_ | with_reducible refine' g_cons ?_
  | with_reducible refine' g_tup ?_ | with_reducible refine' g_lst ?_ | with_reducible refine' g_CB ?_ | with_reducible refine' g_Fn ?_ | with_reducible refine' g_next ?_ | with_reducible refine' g_retN ?_
  | with_reducible refine' g_name ?_ | with_reducible refine' g_sub ?_
  | ((with_reducible refine' g_ixL ?hs ?he ?_); (case hs => walk_at "lk"); (case he => walk_at "at"))
  | ((with_reducible refine' g_ixT ?hs ?he ?_); (case hs => walk_at "lk"); (case he => walk_at "at"))
  | ((with_reducible refine' g_setL ?hs ?he ?_); (case hs => walk_at "hp"); (case he => rfl))
  | ((with_reducible refine' g_app ?hs ?hz ?_); (case hs => walk_at "hp"); (case hz => walk_at "sz"))
  | ((with_reducible refine' ⟨_, _, rfl, Or.inl ?hs, ?_⟩); (case hs => walk_at "lk"))
  | ((with_reducible refine' ⟨_, _, rfl, Or.inr ?hs, ?_⟩); (case hs => walk_at "lk"))
  | with_reducible refine' g_BM ?_ | with_reducible refine' g_BM0 ?_ | ((with_reducible refine' g_tyL ?hs ?_); (case hs => walk_at "lk"))
  | with_reducible refine' g_sl ?_ | with_reducible refine' g_noPart ?_ | with_reducible refine' g_part ?_
  | ((with_reducible refine' g_inT ?hs ?fx ?fs ?_); (case hs => walk_at "lk"); (case fx => rfl); (case fs => rfl))
  | with_reducible refine' g_pair ?_ | with_reducible refine' g_pair0 ?_ | with_reducible refine' g_disp ?_
  | with_reducible refine' g_for ?_ | with_reducible refine' g_tupC ?_ | with_reducible refine' g_lstC ?_ | ((with_reducible refine' g_lens ?_)) | with_reducible refine' g_dg ?_ | with_reducible refine' g_lc ?_ | with_reducible refine' g_rng1 ?_ | with_reducible refine' g_ilist ?_ | with_reducible refine' g_itup ?_
  | ((with_reducible refine' ⟨_, _, rfl, ?hd, ?_⟩); (case hd => walk_at "dg"))
  | ((with_reducible refine' g_eqNil ?hs ?hz ?_); (case hs => walk_at "lk"); (case hz => walk_at "lk"))
  | ((with_reducible refine' g_neNil ?hs ?hz ?_); (case hs => walk_at "lk"); (case hz => walk_at "lk"))
  | with_reducible refine Or.inl ⟨_, rfl, ?_⟩
  | with_reducible refine Or.inr ⟨_, rfl, ?_⟩
  | ((with_reducible refine' g_eq ?hs ?_); (case hs => rfl))
  | ((with_reducible refine' g_ne ?hs ?_); (case hs => rfl))
  | ((with_reducible refine' g_I ?hc ?_); (case hc => walk_at "ar")))
/-- arithmetic's side conditions -/
local macro_rules | `(tactic| walk_at "ar") => `(tactic| (first
  | (show (0 : Int) < _; first | omega | decide) | (show (0 : Int) < _ ∧ _; constructor <;> omega) | (show ¬ (_ : Int) = _; omega) | (show (_ : Int) ≠ _ ∧ _; constructor <;> omega)
  | (show (-(2 ^ 64) < _ ∧ _) ∨ _; (first | (left; constructor <;> omega) | (right; constructor <;> omega))) | (show (0 : Int) ≤ _ ∧ _ ∧ _; refine ⟨by omega, by omega, by decide⟩)))
/-- what stands at an index -/
local macro_rules | `(tactic| walk_at "at") => `(tactic| first | rfl | assumption)
/-- what stands at an address -/
local macro_rules | `(tactic| walk_at "hp") => `(tactic| first | assumption | exact upd_same | ((refine' Eq.trans (upd_ne ?hn) ?hm); (case hm => walk_at "hp"); (case hn => walk_at "ne")))
/-- two places are two -/
local macro_rules | `(tactic| walk_at "ne") => `(tactic| first
  | assumption | exact Ne.symm (by assumption)
  | ((refine' ne_of_none ?ha ?hb); (case hb => assumption); (case ha => walk_at "hp")) | ((refine' Ne.symm (ne_of_none ?ha ?hb)); (case hb => assumption); (case ha => walk_at "hp")))
/-- what a dict tells -/
local macro_rules | `(tactic| walk_at "dg") => `(tactic| first | assumption)
/-- a length -/
local macro_rules | `(tactic| walk_at "sz") => `(tactic| first | (show _ ≤ sizeLine; decide) | (show _ < sizeLine; decide) | assumption | exact szlt (by simp) | exact szle (by simp))
/-- a list or tuple that stands -/
local macro_rules | `(tactic| walk_at "lk") => `(tactic| first | assumption | exact SqL.of (by assumption) | exact SqT.of (by assumption) | exact SqL.of upd_same | exact SqT.of upd_same | (refine' FzL.sq ?hm; (case hm => walk_at "fz")))
/-- a list that nobody writes -/
local macro_rules | `(tactic| walk_at "fz") => `(tactic| first | assumption | ((refine' FzL.uw ?hm ?hx); (case hx => walk_at "hp"); (case hm => walk_at "fz")) | ((refine' FzL.nw ?hm ?hx); (case hx => assumption); (case hm => walk_at "fz")))
/-- as far as it goes by itself -/
local macro_rules | `(tactic| walk_at "g") => `(tactic| repeat walk_at "g1")
/-- the body's reading, its places in short -/
local macro_rules | `(tactic| walk_at "go") => `(tactic| ((try dsimp only [cxOf, Cx.nox, Cx.wish]); walk_at "g"))
namespace K3
open PySem PySem.Spec PyProof.Rows L2 Bq
section
variable {P : Program} {w : World} {K : PySem.W.Frag} {mg : Str → Option Value} {base : Heap}
/-- further steps: dicts written, tuples taken apart -/
local macro_rules | `(tactic| walk_at "g1") => `(tactic| first
  | with_reducible refine' g_sdput ?_
  | ((with_reducible refine' g_gtup ?hs ?hl ?_); (case hs => walk_at "lk"); (case hl => rfl))
  | with_reducible refine' g_gcons ?_
  | with_reducible refine' g_gnil ?_
  | with_reducible refine' And.intro (Eq.refl V.non) ?_
  | with_reducible refine' g_isN ?_
  | ((with_reducible refine' g_chainR ?ha ?hb ?hc ?_); (case ha => intro R q; walk_at "g"; exact q); (case hb => intro R q; walk_at "g"; exact q); (case hc => intro R q; walk_at "g"; exact q))
  | with_reducible refine' g_notN ?_)
/-- what the law's dict tells -/
local macro_rules | `(tactic| walk_at "dg") => `(tactic| first
  | assumption
  | exact LH.gfuns (by assumption)
  | exact LH.gsaid (by assumption)
  | exact LH.gcells (by assumption)
  | exact LH.gfuel (by assumption)
  | exact LH.gend (by assumption)
  | exact LH.gcalls (by assumption)
  | exact LH.gnames (by assumption)
  | exact LH.gwaits (by assumption)
  | exact LH.gworth (by assumption)
  | exact LH.glook (by assumption))
/-- a test that fails, that holds, by itself -/
local macro_rules | `(tactic| walk_at "no") => `(tactic| ((refine tkF rfl ?_); walk_at "g"))
local macro_rules | `(tactic| walk_at "yes") => `(tactic| ((refine tkT rfl ?_); walk_at "g"))
local macro_rules | `(tactic| walk_at "g1") => `(tactic| first
  | with_reducible refine' g_catS ?_
  | with_reducible refine' g_mulS ?_
  | with_reducible refine' g_rev ?_)
/-- numbers in lists, more -/
local macro_rules | `(tactic| walk_at "g1") => `(tactic| first
  | with_reducible refine' g_augS ?_
  | with_reducible refine' g_ipI ?_
  | with_reducible refine' g_revL ?_
  | ((with_reducible refine' g_getL ?hs ?he ?_); (case hs => walk_at "lk"); (case he => walk_at "at"))
  | with_reducible refine' g_enum ?_)
open Fl
theorem op_in_seqK (K : PySem.W.Frag) {X : Cx} (hK : X.K = K := by rfl) : OpR X (compareOp .In) (rIn K false) := hK ▸ op_in_seq
theorem g_enumG {ta : TA} {σ : L2.St} {H : Hp} {R : It → Hp → Prop} (h : ta σ H fun vs H1 => ∃ a xs, vs = [.ref a] ∧ SqL K H1 a xs ∧ R (Ite K a) H1) : iEnum K ta σ H R := h
theorem le_at {H : Hp} {v : V} {e : LE} (r : Rep K H v (leT e)) : ∃ a rv ka, v = .ref a ∧ SqT K H a [rv, .ref ka] ∧ Rep K H rv e.row ∧ SqT K H ka (iv (e.kids.map fun k => ((k : Nat) : Int))) := by
  obtain ⟨a, vs, rfl, hS, rs⟩ := r.tupI
  obtain ⟨v1, vs1, rfl, r1, rs1⟩ := rs.consI
  obtain ⟨v2, vs2, rfl, r2, rs2⟩ := rs1.consI
  obtain rfl := rs2.nilI
  obtain ⟨ka, ks, rfl, hk, rk⟩ := r2.tupI
  refine ⟨a, v1, ka, rfl, hS, r1, ?_⟩
  have : ks = iv (e.kids.map fun k => ((k : Nat) : Int)) := by
    clear hk hS r2 r1 rs rs1 r
    revert rk
    generalize e.kids = l
    induction l generalizing ks with
    | nil => intro rk; exact rk.nilI
    | cons k r ih =>
      intro rk
      obtain ⟨v, us, rfl, a, b⟩ := rk.consI
      obtain rfl := a.intI
      rw [ih us b]
      rfl
  rw [← this]
  exact hk
def nvf (f : Nat → Nat) : Nat → Int := fun v => ((f v : Nat) : Int)
theorem nvf_upd (f : Nat → Nat) (k i : Nat) : fupd (nvf f) k ((i : Nat) : Int) = nvf (fupd f k i) := by
  funext v
  unfold nvf
  by_cases h : v = k
  · subst h
    simp only [fupd_same]
  · simp only [fupd_ne h]
theorem parF_snoc (e : LE) : ∀ (E : List LE) (i : Nat) (f : Nat → Nat), parF (E ++ [e]) i f = e.kids.foldl (fun g k => fupd g k (i + E.length)) (parF E i f)
  | [], i, f => rfl
  | a :: r, i, f => by
    rw [List.cons_append, parF, parF_snoc e r, parF, List.length_cons, show i + 1 + r.length = i + (r.length + 1) by omega]
def spTakers (K : PySem.W.Frag) : Sp := fun vs H Q _ => ∃ a es E, vs = [.ref a] ∧ SqL K H a es ∧ Reps K H es (E.map leT) ∧ OkLE E ∧ ∀ H' l, Ch K [] H H' → H l = none → H' l = some (.lst (hv (E.length - 1) (nvf (parE E)))) → Q (.ref l) H'
theorem fn_takers (C : Cn w K mg base) : Fn P w K mg base CX0 1 "takers" ["layer"] (spTakers K) := C.f_takers fun fd F => by
  refine F.ok (CX := CX0) sc_takers (fun vs H Q E h => ?_) (fun cdv A outer s H vs Q E hr h => ?_)
  · obtain ⟨a, es, E, rfl, _⟩ := h
    rfl
  · obtain ⟨a, es, E, rfl, ha, re, o, q⟩ := h
    refine ⟨_, PSs.nox (pss_cons (ps_set (i := 1) sc_takers.nd rfl (Or.inl rfl) (pe_op op_repL (pe_lstC (pa_cons pe_int pa_nil)) (pe_op op_sub (pe_callB call_len_seq (by rfl) (C.m_len) PySem.boot_len (pa_cons (pv 0) pa_nil)) pe_int)))
      (pss_cons (ps_for PassesOwn.never rfl (pi_enum (by rfl) (C.m_enumerate) (pa_cons (pv 0) pa_nil)) (pg_tup rfl (pgs_cons (pg_name (i := 2) sc_takers.nd rfl (Or.inl rfl)) (pgs_cons (pg_tup rfl (pgs_cons (pg_name (i := 3) sc_takers.nd rfl (Or.inl rfl)) (pgs_cons (pg_name (i := 4) sc_takers.nd rfl (Or.inl rfl)) pgs_nil))) pgs_nil))) (pss_one (ps_for PassesOwn.never rfl (pi_tup (pv 4)) (pg_name (i := 5) sc_takers.nd rfl (Or.inl rfl)) (pss_one (ps_asg (pv 2) (pg_sub (pv 1) (pv 5) set_list))))))
      (pss_one (ps_ret (pv 1))))), ?_⟩
    have le : es.length = E.length := by rw [re.len, List.length_map]
    have n1 := o.n1
    have n2 := o.n2
    walk_at "go"
    refine ⟨szle (by simp), fun l0 H0 m0 e0 c0 => ?_⟩
    have ha0 := c0.sqL ha (by simp)
    walk_at "g"
    refine ⟨l0, _, _, rfl, rfl, e0, by omega, by omega, by rw [sizeLine_eq]; simp; omega, fun l H1 m1 e1 c1 => ?_⟩
    rw [le, show (((E.length : Nat) : Int) - 1).toNat = E.length - 1 by omega, flat_rep, hv0] at e1
    have c01 := c0.trans c1
    have lN := c0.free m1 (by simp)
    have ha1 := c01.sqL ha (by simp)
    walk_at "g"
    refine for_it (walk_enum (xs := es)) (fun i σ' H' => ∃ x2 x3 x4 x5, σ' = [some (.ref a), some (.ref l), x2, x3, x4, x5] ∧ Ch K [] H H' ∧ H' l = some (.lst (hv (E.length - 1) (nvf (parF (E.take i) 0 fun _ => 0))))) ⟨none, none, none, none, rfl, c01, by rw [e1, List.take_zero]; rfl⟩ (fun i σ' H' _ ⟨_, _, _, _, _, c, _⟩ => c.sqL ha (by simp)) ?_ ?_
    · rintro i x1 σ H2 H3 hi ⟨x2, x3, x4, x5, rfl, c2, e2⟩ ⟨T1, xa, xb, rfl, nT, rfl, exa, hx⟩
      cases exa
      have hx : es[i]? = some xb := hx
      obtain ⟨e, he, rle⟩ := reps_map re hx
      have c3 : Ch K [] H2 (upd H2 T1 (.tup [.int (i : Nat), xb])) := Ch.new nT
      have eT : (upd H2 T1 (.tup [.int (i : Nat), xb])) T1 = some (.tup [.int (i : Nat), xb]) := upd_same
      generalize upd H2 T1 (.tup [.int (i : Nat), xb]) = H3 at c3 eT ⊢
      have c23 := c2.trans c3
      have e3 := c3.up _ _ e2 (by simp)
      obtain ⟨ea, rv, ka, rfl, hea, _, hka⟩ := le_at (rle.kt c23.kt)
      have kb : ∀ k ∈ e.kids, k < E.length - 1 := fun k hk => by
        have h1 := o.ah i e he k hk
        have h2 := (List.getElem?_eq_some_iff.mp he).1
        omega
      refine g_gtup (SqT.of eT) rfl ?_
      walk_at "g"
      refine ⟨⟨_, hka⟩, for_it (walk_tup (xs := iv (e.kids.map fun k => ((k : Nat) : Int)))) (fun j σ' H' => ∃ x5, σ' = [some (.ref a), some (.ref l), some (.int (i : Nat)), some rv, some (.ref ka), x5] ∧ Ch K [] H H' ∧ Ch K [l] H3 H' ∧ H' l = some (.lst (hv (E.length - 1) (nvf ((e.kids.take j).foldl (fun g k => fupd g k i) (parF (E.take i) 0 fun _ => 0)))))) ⟨_, rfl, c23, Ch.refl, by rw [List.take_zero]; exact e3⟩ (fun j σ' H' _ ⟨_, _, _, c, _⟩ => c.sqT hka) ?_ ?_⟩
      · rintro j y σ _ H4 hj ⟨x5, rfl, c4, d4, e4⟩ ⟨rfl, hy⟩
        obtain ⟨k, hk, rfl⟩ : ∃ k, e.kids[j]? = some k ∧ y = .int (k : Nat) := by
          unfold iv at hy
          rw [List.getElem?_map, List.getElem?_map] at hy
          cases h : e.kids[j]? with
          | none => rw [h] at hy; cases hy
          | some k => rw [h] at hy; cases hy; exact ⟨k, rfl, rfl⟩
        have hkl := kb k (List.mem_of_getElem? hk)
        walk_at "g"
        refine setL_nat e4 (by rw [hv_len]; exact hkl) ?_
        refine ⟨_, rfl, Ch.wrN c4 lN e4 rfl, d4.trans (Ch.wrL e4 (by simp)), ?_⟩
        rw [upd_same, hv_set, nvf_upd, take_snoc hk, List.foldl_append]
        rfl
      · rintro σ H4 ⟨x5, rfl, c4, d4, e4⟩
        refine ⟨_, _, _, _, rfl, c4, ?_⟩
        rw [iv_len, List.length_map, List.take_length] at e4
        rw [e4, take_snoc he, parF_snoc]
        have : (E.take i).length = i := by rw [List.length_take]; omega
        rw [this, Nat.zero_add]
    · rintro σ H2 ⟨x2, x3, x4, x5, rfl, c2, e2⟩
      rw [le, List.take_length] at e2
      walk_at "g"
      exact q H2 l c2 lN e2
/-! ### what is loud -/
def loudW (w : Str) : Bool := inV (.str w) [V.str "over", V.str "rest", V.str "get", V.str "call"]
def rowW : T → Str
  | .tup (.str w :: _) => w
  | _ => ""
def loudL : List LE → Nat → List Nat
  | [], _ => []
  | e :: r, i => if loudW (rowW e.row) = true then i :: loudL r (i + 1) else loudL r (i + 1)
theorem loudL_snoc (e : LE) : ∀ (E : List LE) (i : Nat), loudL (E ++ [e]) i = loudL E i ++ (if loudW (rowW e.row) = true then [i + E.length] else [])
  | [], i => by simp [loudL]
  | a :: r, i => by
    simp only [List.cons_append, loudL, loudL_snoc e r, List.length_cons]
    rw [show i + 1 + r.length = i + (r.length + 1) by omega]
    split <;> rfl
theorem loudL_mem : ∀ {E : List LE} {i k : Nat}, k ∈ loudL E i → i ≤ k ∧ k < i + E.length
  | e :: r, i, k, h => by
    simp only [loudL] at h
    have hr : k ∈ loudL r (i + 1) → i ≤ k ∧ k < i + (e :: r).length := fun h => by
      have := loudL_mem h
      simp only [List.length_cons]
      omega
    split at h
    · rcases List.mem_cons.mp h with rfl | h
      · simp
      · exact hr h
    · exact hr h
theorem loudL_len : ∀ (E : List LE) (i : Nat), (loudL E i).length ≤ E.length
  | [], _ => Nat.le_refl _
  | e :: r, i => by
    have := loudL_len r (i + 1)
    simp only [loudL, List.length_cons]
    split <;> simp <;> omega
theorem loudL_up : ∀ (E : List LE) (i : Nat), (loudL E i).Pairwise (· < ·)
  | [], _ => .nil
  | e :: r, i => by
    have h := loudL_up r (i + 1)
    simp only [loudL]
    split
    · exact .cons (fun k hk => by have := loudL_mem hk; omega) h
    · exact h
/-- rows begin with a text -/
def OkRow (E : List LE) : Prop := ∀ e ∈ E, ∃ w r, e.row = .tup (.str w :: r)
theorem okrow_T (t : Th) : ∃ w r, rowT t = .tup (.str w :: r) := by
  cases t with
  | p p => cases p <;> exact ⟨_, _, rfl⟩
  | d d => cases d <;> exact ⟨_, _, rfl⟩
theorem okrow_app {a b : List LE} (h : OkRow a) (g : OkRow b) : OkRow (a ++ b) := fun e he => by
  rcases List.mem_append.mp he with he | he
  · exact h e he
  · exact g e he
theorem okrow_one (t : Th) (ks : List Nat) : OkRow [⟨rowT t, ks⟩] := fun e he => by
  simp only [List.mem_cons, List.not_mem_nil, or_false] at he
  subst he
  exact okrow_T t
mutual
theorem okrow_P : ∀ (p : Pt) (b : Nat), OkRow (layP p b)
  | .num n, b => okrow_one (.p (.num n)) []
  | .name i, b => okrow_one (.p (.name i)) []
  | .bin op x y, b => okrow_app (okrow_P x b) (okrow_app (okrow_P y _) (okrow_one (.p (.bin op x y)) _))
  | .nt x, b => okrow_app (okrow_P x b) (okrow_one (.p (.nt x)) _)
  | .get x, b => okrow_app (okrow_P x b) (okrow_one (.p (.get x)) _)
  | .call f ps, b => okrow_app (okrow_Ps ps b) (okrow_one (.p (.call f ps)) _)
theorem okrow_Ps : ∀ (ps : List Pt) (b : Nat), OkRow (layPs ps b)
  | [], b => fun e he => by simp [layPs] at he
  | p :: r, b => okrow_app (okrow_P p b) (okrow_Ps r _)
end
theorem okrow_D (d : Dd) : OkRow (layD d) := okrow_app (okrow_Ps _ _) (okrow_one (.d d) _)
def loudsOf (E : List LE) : List Nat := loudL E 0
def niv (l : List Nat) : List V := iv (l.map fun k => ((k : Nat) : Int))
theorem niv_app (a b : List Nat) : niv (a ++ b) = niv a ++ niv b := by simp [niv, iv]
theorem niv_len (a : List Nat) : (niv a).length = a.length := by simp [niv, iv]
theorem niv_at {l : List Nat} {i : Nat} {y : V} (h : (niv l)[i]? = some y) : ∃ k, l[i]? = some k ∧ y = .int (k : Nat) := by
  unfold niv iv at h
  rw [List.getElem?_map, List.getElem?_map] at h
  cases e : l[i]? with
  | none => rw [e] at h; cases h
  | some k => rw [e] at h; cases h; exact ⟨k, rfl, rfl⟩
def spLouds (K : PySem.W.Frag) : Sp := fun vs H Q _ => ∃ a es E, vs = [.ref a] ∧ SqL K H a es ∧ Reps K H es (E.map leT) ∧ OkRow E ∧ E.length ≤ 1000 ∧ ∀ H' l, Ch K [] H H' → H l = none → H' l = some (.lst (niv (loudsOf E))) → Q (.ref l) H'
theorem fn_louds (C : Cn w K mg base) : Fn P w K mg base CX0 1 "louds" ["layer"] (spLouds K) := C.f_louds fun fd F => by
  refine F.ok (CX := CX0) sc_louds (fun vs H Q E h => ?_) (fun cdv A outer s H vs Q E hr h => ?_)
  · obtain ⟨a, es, E, rfl, _⟩ := h
    rfl
  · obtain ⟨a, es, E, rfl, ha, re, okr, hz, q⟩ := h
    refine ⟨_, PSs.nox (pss_one (ps_ret (pe_lc (own := [("number", 1), ("row", 2), ("_", 3)]) (g := (gTup K 2 (gCons (gName 1) (gCons (gTup K 2 (gCons (gName 2) (gCons (gName 3) gNil))) gNil)))) rfl sc_louds.nd (pi_enum (by rfl) (C.m_enumerate) (pa_cons (pv 0) pa_nil)) (blkOk_by (own := [("number", 1), ("row", 2), ("_", 3)]) (N := ["layer", "number", "row", "_"]) (sc := defScope s_louds) (by decide +kernel)) (fun _ _ _ _ _ => (pg_tup rfl (pgs_cons (pg_name (i := 1) sc_louds.nd rfl (Or.inl rfl) (Or.inr rfl)) (pgs_cons (pg_tup rfl (pgs_cons (pg_name (i := 2) sc_louds.nd rfl (Or.inl rfl) (Or.inr rfl)) (pgs_cons (pg_name (i := 3) sc_louds.nd rfl (Or.inl rfl) (Or.inr rfl)) pgs_nil))) pgs_nil)))) (fun _ _ _ _ _ => pts_one (pt_cmpR (op_in_seqK K) (pe_ix (ix_tupK K) (pv 2) pe_int (fun _ _ => rfl)) (pe_glob (v := .ref _) (by rfl) C.g_LOUD rfl) (by rfl))) (fun _ _ _ _ _ => (pv 1))))), ?_⟩
    have le : es.length = E.length := by rw [re.len, List.length_map]
    walk_at "go"
    intro D nD
    refine lc_it (walk_enum (xs := es)) (fun i H' => Ch K [] H H' ∧ H' D = some (.lst (niv (loudL (E.take i) 0)))) ⟨Ch.new nD, by rw [upd_same, List.take_zero]; rfl⟩ (fun i H' _ p => p.1.sqL ha (by simp)) ?_ ?_
    · rintro i x1 H2 H3 hi ⟨c2, e2⟩ ⟨T1, xa, xb, rfl, nT, rfl, exa, hx⟩
      cases exa
      have hx : es[i]? = some xb := hx
      obtain ⟨e, he, rle⟩ := reps_map re hx
      have c3 : Ch K [] H2 (upd H2 T1 (.tup [.int (i : Nat), xb])) := Ch.new nT
      have eT : (upd H2 T1 (.tup [.int (i : Nat), xb])) T1 = some (.tup [.int (i : Nat), xb]) := upd_same
      generalize upd H2 T1 (.tup [.int (i : Nat), xb]) = H3 at c3 eT ⊢
      have c23 := c2.trans c3
      have e3 := c3.up _ _ e2 (by simp)
      obtain ⟨ea, rv, ka, rfl, hea, rr, hka⟩ := le_at (rle.kt c23.kt)
      obtain ⟨w, r, hw⟩ := okr e (List.mem_of_getElem? he)
      rw [hw] at rr
      obtain ⟨ra, rvs, rfl, hra, rrs⟩ := rr.tupI
      obtain ⟨r0, rvs2, rfl, q0, _⟩ := rrs.consI
      obtain rfl := q0.strI
      have g0 : atI (V.str w :: rvs2) 0 = some (V.str w) := atI_nat (j := 0) rfl
      have hL := C.t_LOUD H3
      have sn := loudL_snoc e (E.take i) 0
      rw [← take_snoc he, hw] at sn
      have ti : (E.take i).length = i := by rw [List.length_take]; omega
      have hz2 : (niv (loudL (E.take i) 0)).length < sizeLine := by
        have := loudL_len (E.take i) 0
        rw [niv_len, sizeLine_eq]
        omega
      refine g_gtup (SqT.of eT) rfl ?_
      walk_at "g"
      refine ⟨rfl, ?_⟩
      walk_at "g"
      refine iteB (fun h0 => ?_) (fun h0 => ?_)
      · walk_at "g"
        refine ⟨_, e3, hz2, Ch.wrN c23 nD e3 rfl, ?_⟩
        rw [upd_same, sn, show loudW (rowW (.tup (.str w :: r))) = true from h0, if_pos rfl, niv_app, ti, Nat.zero_add]
        rfl
      · refine ⟨c23, ?_⟩
        rw [e3, sn, show loudW (rowW (.tup (.str w :: r))) = false from h0, if_neg Bool.false_ne_true, List.append_nil]
    · rintro H2 ⟨c2, e2⟩
      rw [le, List.take_length] at e2
      exact q H2 D c2 nD e2
/-! ### the links of a layer -/
def pairsL : List Nat → List Lnk
  | a :: b :: r => ⟨a, b, 0⟩ :: pairsL (b :: r)
  | _ => []
def linksP (E : List LE) : List Lnk := (List.range (E.length - 1)).map fun k => ⟨k, parE E k, 1⟩
def linksOf (E : List LE) : List Lnk := linksP E ++ pairsL (loudsOf E)
theorem pairsL_len : ∀ l : List Nat, (pairsL l).length = l.length - 1
  | [] => rfl
  | [a] => rfl
  | a :: b :: r => by simp only [pairsL, List.length_cons, pairsL_len (b :: r)]; omega
theorem pairsL_mem : ∀ {l : List Nat} {x : Lnk}, l.Pairwise (· < ·) → x ∈ pairsL l → x.lo < x.up ∧ x.up ∈ l ∧ x.ri = 0
  | a :: b :: r, x, h, hx => by
    cases h with
    | cons h1 h2 =>
    simp only [pairsL, List.mem_cons] at hx
    rcases hx with rfl | hx
    · exact ⟨h1 b (by simp), by simp, rfl⟩
    · obtain ⟨u, v, w⟩ := pairsL_mem h2 hx
      exact ⟨u, by simp [v], w⟩
theorem pairsL_at : ∀ {l : List Nat} {i a b : Nat}, l[i]? = some a → l[i + 1]? = some b → (pairsL l)[i]? = some ⟨a, b, 0⟩
  | [], i, a, b, h, _ => by simp at h
  | [c], 0, a, b, _, h => by simp at h
  | [c], i + 1, a, b, h, _ => by simp at h
  | c :: d :: r, 0, a, b, h, g => by
    simp at h g
    subst h g
    rfl
  | c :: d :: r, i + 1, a, b, h, g => by
    simp only [pairsL, List.getElem?_cons_succ]
    exact pairsL_at (by simpa using h) (by simpa using g)
theorem okln_of {E : List LE} (o : OkLE E) : Okln E.length (linksOf E) := by
  intro l hl
  rcases List.mem_append.mp hl with hl | hl
  · obtain ⟨k, hk, rfl⟩ := List.mem_map.mp hl
    obtain ⟨e, _, _, h1, h2⟩ := o.par (List.mem_range.mp hk)
    exact ⟨h1, h2, by simp, by simp⟩
  · obtain ⟨h1, h2, h3⟩ := pairsL_mem (loudL_up E 0) hl
    have := loudL_mem h2
    exact ⟨h1, by omega, by rw [h3]; decide, by rw [h3]; decide⟩
theorem linksP_len (E : List LE) : (linksP E).length = E.length - 1 := by simp [linksP]
theorem linksOf_len (E : List LE) : (linksOf E).length ≤ 2 * E.length := by
  unfold linksOf
  rw [List.length_append, linksP_len, pairsL_len]
  have := loudL_len E 0
  unfold loudsOf
  omega
theorem linksP_at {E : List LE} {k : Nat} (h : k < E.length - 1) : (linksP E)[k]? = some ⟨k, parE E k, 1⟩ := by
  simp [linksP, List.getElem?_range h]
theorem drop1 (l : List Nat) : (niv l).drop 1 = niv (l.drop 1) := by simp [niv, iv, List.map_drop]
theorem cutV1 (xs : List V) : cutV xs (some 1) none = xs.drop 1 := by
  cases xs with
  | nil => rfl
  | cons x r =>
    have e1 : HT.sIx (x :: r).length 0 (some 1) = 1 := by
      have := HT.sIx_nat (x :: r).length 0 1
      rw [show ((1 : Nat) : Int) = 1 from rfl] at this
      rw [this]
      simp
    have e2 : HT.sIx (x :: r).length (x :: r).length none = (x :: r).length := rfl
    unfold cutV
    rw [e1, e2]
    simp
def spLinks (K : PySem.W.Frag) : Sp := fun vs H Q _ => ∃ a es E, vs = [.ref a] ∧ SqL K H a es ∧ Reps K H es (E.map leT) ∧ OkLE E ∧ OkRow E ∧ ∀ H' l us, Ch K [] H H' → H l = none → H' l = some (.lst us) → Reps K H' us ((linksOf E).map lnkT) → Q (.ref l) H'
theorem fn_links (C : Cn w K mg base) : Fn P w K mg base CX0 2 "links_of" ["layer"] (spLinks K) := C.f_links_of fun fd F => by
  have F_takers : Fn P w K mg base CX0 1 "takers" ["layer"] (spTakers K) := fn_takers C
  have F_louds : Fn P w K mg base CX0 1 "louds" ["layer"] (spLouds K) := fn_louds C
  refine F.ok (CX := CX0) sc_links_of (fun vs H Q E h => ?_) (fun cdv A outer s H vs Q E hr h => ?_)
  · obtain ⟨a, es, E, rfl, _⟩ := h
    rfl
  · obtain ⟨a, es, E, rfl, ha, re, o, okr, q⟩ := h
    refine ⟨_, PSs.nox (pss_cons (ps_setLc (i := 1) (own := [("part", 5), ("taker", 6)]) (g := (gTup K 2 (gCons (gName 5) (gCons (gName 6) gNil)))) (tt := tYes) rfl sc_links_of.nd rfl rfl (sw_true rfl rfl rfl (by decide +kernel)) (pi_enum (by rfl) (C.m_enumerate) (pa_cons (pe_fn F_takers (rmm hr) (by rfl) pass0 (pa_cons (pv 0) pa_nil)) pa_nil)) (blkOk_by (own := [("part", 5), ("taker", 6)]) (N := ["layer", "found", "in_turn", "lower", "upper", "part", "taker"]) (sc := defScope s_links_of) (by decide +kernel)) (fun _ _ _ _ _ => (pg_tup rfl (pgs_cons (pg_name (i := 5) sc_links_of.nd rfl (Or.inl rfl) (Or.inr rfl)) (pgs_cons (pg_name (i := 6) sc_links_of.nd rfl (Or.inl rfl) (Or.inr rfl)) pgs_nil)))) (fun _ _ _ _ _ => pts_nil) (fun _ _ _ _ _ => (pe_tupCK K (pa_cons (pv 5) (pa_cons (pv 6) (pa_cons pe_int pa_nil))))))
      (pss_cons (ps_set (i := 2) sc_links_of.nd rfl (Or.inl rfl) (pe_fn F_louds (rmm hr) (by rfl) pass0 (pa_cons (pv 0) pa_nil)))
      (pss_cons (ps_for PassesOwn.never rfl (RZ.pi_zipA (by rfl) (C.m_zip) (pa_cons (pv 2) (pa_cons (pe_slice sl_list (pv 2) (po_some pe_int) po_none) pa_nil))) (pg_tup rfl (pgs_cons (pg_name (i := 3) sc_links_of.nd rfl (Or.inl rfl)) (pgs_cons (pg_name (i := 4) sc_links_of.nd rfl (Or.inl rfl)) pgs_nil))) (pss_one (ps_expr (pe_bm PySem.F.plainAttrs_list PySem.F.slot_list_append PySem.F.type_list_append mt_append (pv 1) (pa_cons (pe_tupC (pa_cons (pv 3) (pa_cons (pv 4) (pa_cons pe_int pa_nil)))) pa_nil)))))
      (pss_one (ps_ret (pv 1)))))), ?_⟩
    have n2 := o.n2
    walk_at "go"
    refine ⟨a, es, E, rfl, ha, re, o, fun H1 tl c1 n1 e1 => ?_⟩
    have htl : SqL K H1 tl (hv (E.length - 1) (nvf (parE E))) := SqL.of e1
    walk_at "g"
    intro D nD
    have nDH := c1.free nD (by simp)
    refine lc_it (walk_enum (xs := hv (E.length - 1) (nvf (parE E)))) (fun i H' => Ch K [] H H' ∧ Ch K [] H1 H' ∧ ∃ us, H' D = some (.lst us) ∧ Reps K H' us (((linksP E).take i).map lnkT)) ⟨c1.trans (Ch.new nD), Ch.new nD, [], upd_same, by rw [List.take_zero]; exact .nil⟩ (fun i H' _ p => p.2.1.sqL htl (by simp)) ?_ ?_
    · rintro i x1 H2 H3 hi ⟨c2, d2, us, e2, r2⟩ ⟨T1, xa, xb, rfl, nT, rfl, exa, hx⟩
      cases exa
      rw [hv_len] at hi
      have hx : (hv (E.length - 1) (nvf (parE E)))[i]? = some xb := hx
      rw [hv_at hi] at hx
      cases hx
      have c3 : Ch K [] H2 (upd H2 T1 (.tup [.int (i : Nat), .int (nvf (parE E) i)])) := Ch.new nT
      have eT : (upd H2 T1 (.tup [.int (i : Nat), .int (nvf (parE E) i)])) T1 = some (.tup [.int (i : Nat), .int (nvf (parE E) i)]) := upd_same
      generalize upd H2 T1 (.tup [.int (i : Nat), .int (nvf (parE E) i)]) = H3 at c3 eT ⊢
      have e3 := c3.up _ _ e2 (by simp)
      have lk := linksP_at hi
      have lus : us.length ≤ i := by rw [r2.len, List.length_map, List.length_take]; omega
      refine g_gtup (SqT.of eT) rfl ?_
      walk_at "g"
      refine ⟨rfl, ?_⟩
      simp only [tYes, ↓reduceIte]
      walk_at "g"
      refine ⟨szle (by simp), fun p H4 n4 e4 c4 => ?_⟩
      have e4D := c4.up _ _ e3 (by simp)
      refine ⟨_, e4D, by rw [sizeLine_eq]; omega, Ch.wrN ((c2.trans c3).trans c4) nDH e4D rfl, Ch.wrN ((d2.trans c3).trans c4) nD e4D rfl, _, upd_same, ?_⟩
      have k5 : Kt K H4 (upd H4 D (.lst (us ++ [.ref p]))) := (Ch.wr (S := [D]) e4D rfl (by simp)).kt
      rw [take_snoc lk, List.map_append]
      exact reps_snoc (r2.kt ((c3.kt.trans c4.kt).trans k5)) (.tup (k5.t _ _ (SqT.of e4)) (.cons (.int _) (.cons (.int _) (.cons (.int _) .nil))))
    · rintro H2 ⟨c2, d2, us, e2, r2⟩
      rw [hv_len, List.take_of_length_le (by rw [linksP_len]; exact Nat.le_refl _)] at r2
      walk_at "g"
      refine ⟨a, es, E, rfl, c2.sqL ha (by simp), re.kt c2.kt, okr, n2, fun H3 ll c3 n3 e3 => ?_⟩
      have c23 := c2.trans c3
      have e3D := c3.up _ _ e2 (by simp)
      have hll : SqL K H3 ll (niv (loudsOf E)) := SqL.of e3
      walk_at "g"
      unfold RZ.iZipA
      walk_at "g"
      refine ⟨ll, _, rfl, hll, fun sl nsl => ?_⟩
      rw [show cutV (niv (loudsOf E)) (some 1) none = niv ((loudsOf E).drop 1) from by rw [← drop1]; exact cutV1 _]
      have c4 : Ch K [] H3 (upd H3 sl (.lst (niv ((loudsOf E).drop 1)))) := Ch.new nsl
      have e4 : (upd H3 sl (.lst (niv ((loudsOf E).drop 1)))) sl = some (.lst (niv ((loudsOf E).drop 1))) := upd_same
      generalize upd H3 sl (.lst (niv ((loudsOf E).drop 1))) = H4 at c4 e4 ⊢
      have hll4 := c4.sqL hll (by simp)
      have hsl4 : SqL K H4 sl (niv ((loudsOf E).drop 1)) := SqL.of e4
      have c24 := c23.trans c4
      have e4D := c4.up _ _ e3D (by simp)
      have ll1 := loudL_len E 0
      have ll2 : (loudsOf E).length ≤ E.length := ll1
      have nDl : D ≠ ll := fun e => by rw [← e, e2] at n3; cases n3
      have nDs : D ≠ sl := fun e => by rw [← e, e3D] at nsl; cases nsl
      walk_at "g"
      refine ⟨ll, sl, _, _, rfl, .inl ⟨hll4, hsl4, ?_⟩⟩
      refine for_it (walk_zip (xs := niv (loudsOf E)) (ys := niv ((loudsOf E).drop 1)) rfl) (fun i σ' H' => ∃ x3 x4 us, σ' = [some (.ref a), some (.ref D), some (.ref ll), x3, x4, none, none] ∧ Ch K [] H H' ∧ Ch K [D] H4 H' ∧ H' D = some (.lst us) ∧ Reps K H' us ((linksP E ++ (pairsL (loudsOf E)).take i).map lnkT)) ⟨_, _, us, rfl, c2.trans (c3.trans c4), Ch.refl, e4D, by rw [List.take_zero, List.append_nil]; exact r2.kt (c3.kt.trans c4.kt)⟩ (fun i σ' H' _ ⟨_, _, _, _, _, c, _⟩ => ⟨c.sqL hll4 (by simpa using nDl.symm), c.sqL hsl4 (by simpa using nDs.symm)⟩) ?_ ?_
      · rintro i x1 σ H5 H6 hi ⟨x3, x4, us5, rfl, c5, d5, e5, r5⟩ ⟨T1, xa, xb, rfl, nT, rfl, hxa, hxb⟩
        have hxa : (niv (loudsOf E))[i]? = some xa := hxa
        have hxb : (niv ((loudsOf E).drop 1))[i]? = some xb := hxb
        obtain ⟨ka, hka, rfl⟩ := niv_at hxa
        obtain ⟨kb, hkb, rfl⟩ := niv_at hxb
        have c6 : Ch K [] H5 (upd H5 T1 (.tup [.int (ka : Nat), .int (kb : Nat)])) := Ch.new nT
        have eT : (upd H5 T1 (.tup [.int (ka : Nat), .int (kb : Nat)])) T1 = some (.tup [.int (ka : Nat), .int (kb : Nat)]) := upd_same
        generalize upd H5 T1 (.tup [.int (ka : Nat), .int (kb : Nat)]) = H6 at c6 eT ⊢
        have e6 := c6.up _ _ e5 (by simp)
        have pk := pairsL_at hka (by rw [List.getElem?_drop] at hkb; rw [show i + 1 = 1 + i by omega]; exact hkb)
        have lus : us5.length < sizeLine := by
          rw [r5.len, List.length_map, List.length_append, linksP_len, List.length_take, pairsL_len, sizeLine_eq]
          omega
        refine g_gtup (SqT.of eT) rfl ?_
        walk_at "g"
        refine ⟨szle (by simp), fun p H7 n7 e7 c7 => ?_⟩
        have e7D := c7.up _ _ e6 (by simp)
        walk_at "g"
        have k8 : Kt K H7 (upd H7 D (.lst (us5 ++ [.ref p]))) := (Ch.wr (S := [D]) e7D rfl (by simp)).kt
        refine ⟨_, _, us5 ++ [.ref p], rfl, Ch.wrN ((c5.trans c6).trans c7) nDH e7D rfl, (d5.trans ((c6.trans c7).mono (by simp))).trans (Ch.wrL e7D (by simp)), upd_same, ?_⟩
        rw [take_snoc pk, ← List.append_assoc, List.map_append (l₁ := linksP E ++ (pairsL (loudsOf E)).take i)]
        exact reps_snoc (r5.kt ((c6.kt.trans c7.kt).trans k8)) (.tup (k8.t _ _ (SqT.of e7)) (.cons (.int _) (.cons (.int _) (.cons (.int _) .nil))))
      · rintro σ H5 ⟨x3, x4, us5, rfl, c5, d5, e5, r5⟩
        rw [List.take_of_length_le (by rw [pairsL_len, niv_len, niv_len, List.length_drop]; omega)] at r5
        walk_at "g"
        exact q H5 D us5 c5 nDH e5 r5
end
end K3
end

section
namespace Fl
theorem pigeon : ∀ (n M : Nat) (f : Nat → Nat), (∀ g, g < M → ∃ v, v < n ∧ f v = g) → M ≤ n
  | 0, M, f, h => by
    rcases Nat.eq_zero_or_pos M with e | e
    · omega
    · obtain ⟨v, hv, _⟩ := h 0 e; omega
  | n + 1, M, f, h => by
    by_cases hc : f n < M
    · have := pigeon n (M - 1) (fun v => if f v = M - 1 then f n else f v) (fun g hg => by
        by_cases e : g = f n
        · obtain ⟨v, hv, hf⟩ := h (M - 1) (by omega)
          have : v ≠ n := fun z => by subst z; omega
          refine ⟨v, by omega, ?_⟩
          show (if f v = M - 1 then f n else f v) = g
          rw [if_pos hf, e]
        · obtain ⟨v, hv, hf⟩ := h g (by omega)
          have : v ≠ n := fun z => by subst z; omega
          refine ⟨v, by omega, ?_⟩
          show (if f v = M - 1 then f n else f v) = g
          rw [if_neg (by omega)]; exact hf)
      omega
    · have := pigeon n M f (fun g hg => by
        obtain ⟨v, hv, hf⟩ := h g hg
        have : v ≠ n := fun z => by subst z; omega
        exact ⟨v, by omega, hf⟩)
      omega
section
variable {n : Nat} {L : List Lnk} {fs : List Int} {h : Nat → Int}
theorem Best.high (o : Okln n L) (b : Best L fs h) : ∀ v, v < n → h v < n := by
  intro v0 hv0
  apply Classical.byContradiction
  intro hn
  have : ∃ g : Nat, g ≤ n ∧ ∀ v, v < n → h v ≠ g := by
    apply Classical.byContradiction
    intro hh
    have := pigeon n (n+1) (fun v => (h v).toNat) (fun g hg => by
      apply Classical.byContradiction
      intro hx
      refine hh ⟨g, by omega, fun v hv e => hx ⟨v, hv, ?_⟩⟩
      show (h v).toNat = g
      omega)
    omega
  obtain ⟨g, hg, hm⟩ := this
  have hgt := hm v0 hv0
  have hl := b.low (fun v => if (g:Int) < h v ∧ v < n then h v - 1 else h v) (fun v => by
    have := b.pos v
    show 0 ≤ if (g:Int) < h v ∧ v < n then h v - 1 else h v
    split <;> omega) (fun l hl => by
    have h1 := o l hl
    have h2 := b.fe l hl
    have h3 := hm l.lo (by omega)
    have h4 := hm l.up (by omega)
    show (if (g:Int) < h l.lo ∧ l.lo < n then h l.lo - 1 else h l.lo) + l.ri ≤ if (g:Int) < h l.up ∧ l.up < n then h l.up - 1 else h l.up
    split <;> split <;> omega) (fun k l f hl hf h0 => by
    have h1 := o l (List.mem_of_getElem? hl)
    have h2 := b.cs k l f hl hf h0
    have h3 := hm l.lo (by omega)
    have h4 := hm l.up (by omega)
    show (if (g:Int) < h l.up ∧ l.up < n then h l.up - 1 else h l.up) = (if (g:Int) < h l.lo ∧ l.lo < n then h l.lo - 1 else h l.lo) + l.ri
    split <;> split <;> omega) v0
  rw [if_pos ⟨by omega, hv0⟩] at hl
  omega
end
/-- the turns of what rises -/
def tnl (x : Nat → Int) (L : List Lnk) : List Int := (L.filter fun l => l.ri == 1).map fun l => x l.up - x l.lo - 1
theorem tnl_app (x : Nat → Int) (a b : List Lnk) : tnl x (a ++ b) = tnl x a ++ tnl x b := by simp [tnl]
theorem tnl_zero (x : Nat → Int) : ∀ {L : List Lnk}, (∀ l ∈ L, l.ri = 0) → tnl x L = []
  | [], _ => rfl
  | l :: r, h => by
    have h1 := h l (by simp)
    have h2 := tnl_zero x (L := r) fun m hm => h m (by simp [hm])
    unfold tnl at h2 ⊢
    rw [List.filter_cons, h1, show ((0 : Int) == 1) = false from rfl]
    simpa using h2
theorem tnl_one (x : Nat → Int) : ∀ {L : List Lnk}, (∀ l ∈ L, l.ri = 1) → tnl x L = L.map fun l => x l.up - x l.lo - 1
  | [], _ => rfl
  | l :: r, h => by
    have h1 := h l (by simp)
    have h2 := tnl_one x (L := r) fun m hm => h m (by simp [hm])
    unfold tnl at h2 ⊢
    rw [List.filter_cons, h1, show ((1 : Int) == 1) = true from rfl, if_pos rfl, List.map_cons, h2, List.map_cons]
theorem span_app (x : Nat → Int) (a b : List Lnk) : span x (a ++ b) = span x a + span x b := by
  unfold span
  induction a with
  | nil => simp [risesOf, fx]
  | cons l r ih =>
    simp only [risesOf, List.cons_append, List.map_cons, fx] at ih ⊢
    rw [ih]
    omega
theorem span_zero (x : Nat → Int) : ∀ {L : List Lnk}, (∀ l ∈ L, l.ri = 0) → span x L = 0
  | [], _ => rfl
  | l :: r, h => by
    have h1 := h l (by simp)
    have h2 := span_zero x (L := r) fun m hm => h m (by simp [hm])
    unfold span at h2 ⊢
    simp only [risesOf, List.map_cons, fx] at h2 ⊢
    rw [h2, h1]
    omega
theorem span_one (x : Nat → Int) : ∀ {L : List Lnk}, (∀ l ∈ L, l.ri = 1) → span x L = (L.map fun l => x l.up - x l.lo - 1).sum + L.length
  | [], _ => rfl
  | l :: r, h => by
    have h1 := h l (by simp)
    have h2 := span_one x (L := r) fun m hm => h m (by simp [hm])
    unfold span at h2 ⊢
    simp only [risesOf, List.map_cons, fx, List.sum_cons, List.length_cons] at h2 ⊢
    rw [h2, h1]
    omega
theorem fr_app : ∀ {a b : List Lnk} {f g : List Int}, a.length = f.length → fr (a ++ b) (f ++ g) = fr a f + fr b g
  | [], b, [], g, _ => by simp [fr]
  | l :: r, b, y :: f, g, h => by
    simp only [List.cons_append, fr, fr_app (a := r) (f := f) (by simpa using h)]
    omega
theorem fr_zero : ∀ {L : List Lnk} {fs : List Int}, (∀ l ∈ L, l.ri = 0) → fr L fs = 0
  | [], fs, _ => by simp [fr]
  | l :: r, [], _ => by simp [fr]
  | l :: r, f :: fs, h => by
    have h1 := h l (by simp)
    have h2 := fr_zero (L := r) (fs := fs) fun m hm => h m (by simp [hm])
    simp only [fr, h2, h1]
    omega
theorem fr_one : ∀ {L : List Lnk} {fs : List Int}, L.length = fs.length → (∀ l ∈ L, l.ri = 1) → fr L fs = fs.sum
  | [], [], _, _ => by simp [fr]
  | l :: r, f :: fs, e, h => by
    have h1 := h l (by simp)
    have h2 := fr_one (L := r) (fs := fs) (by simpa using e) fun m hm => h m (by simp [hm])
    simp only [fr, h2, h1, List.sum_cons]
    omega
/-- what comes in less what goes out, one link more -/
theorem fx_snoc (x : Nat → Int) : ∀ {L : List Lnk} {fs : List Int} {i : Nat} {l : Lnk} {f : Int}, L[i]? = some l → fs[i]? = some f → fx x (L.take (i + 1)) (fs.take (i + 1)) = fx x (L.take i) (fs.take i) + f * (x l.up - x l.lo)
  | [], _, i, l, f, h, _ => by simp at h
  | l0 :: r, [], i, l, f, _, h => by simp at h
  | l0 :: r, f0 :: fs, 0, l, f, h, g => by
    simp at h g
    subst h g
    simp [fx]
  | l0 :: r, f0 :: fs, i + 1, l, f, h, g => by
    have := fx_snoc x (L := r) (fs := fs) (i := i) (by simpa using h) (by simpa using g)
    simp only [List.take_succ_cons, fx] at this ⊢
    rw [this]
    omega
def ind (v : Nat) : Nat → Int := fun u => if u = v then 1 else 0
end Fl
end

section
set_option maxRecDepth 100000
set_option maxHeartbeats 1000000
open Bq L2
/-- one step of a reading; what is left are side goals and places to think -/
local macro_rules | `(tactic| walk_at "g1") => `(tactic| first
  | with_reducible refine' g_seq ?_ | with_reducible refine' g_asg ?_ | with_reducible refine' g_drop ?_ | with_reducible refine' g_ret ?_ | with_reducible refine' g_ifS ?_ | with_reducible refine' g_asgG ?_
  | ((with_reducible refine' g_var ?hv ?_); (case hv => rfl))
  | with_reducible refine' g_c ?_ | with_reducible refine' g_op ?_ | with_reducible refine' g_un ?_ | with_reducible refine' g_I0 ?_ | with_reducible refine' g_U ?_
  | with_reducible refine' g_test ?_ | with_reducible refine' g_tB ?_ | with_reducible refine Exists.intro _ (And.intro rfl ?_) 
  | ((with_reducible refine' g_andP ?ha ?hb ?_); (case ha => intro R q; walk_at "g"; exact q); (case hb => intro R q; walk_at "g"; exact q))
  | ((with_reducible refine' g_orP ?ha ?hb ?_); (case ha => intro R q; walk_at "g"; exact q); (case hb => intro R q; walk_at "g"; exact q))
  | with_reducible refine' g_and ?_ | with_reducible refine' g_or ?_ | with_reducible refine' g_not ?_
  | with_reducible refine' g_andV ?_ | with_reducible refine' g_orV ?_ | with_reducible refine' g_notV ?_ | with_reducible refine' g_if ?_ | with_reducible refine' g_nil ?_ | with_reducible refine' g_cons ?_
  | with_reducible refine' g_tup ?_ | with_reducible refine' g_lst ?_ | with_reducible refine' g_CB ?_ | with_reducible refine' g_Fn ?_ | with_reducible refine' g_next ?_ | with_reducible refine' g_retN ?_
  | with_reducible refine' g_name ?_ | with_reducible refine' g_sub ?_
  | ((with_reducible refine' g_ixL ?hs ?he ?_); (case hs => walk_at "lk"); (case he => walk_at "at"))
  | ((with_reducible refine' g_ixT ?hs ?he ?_); (case hs => walk_at "lk"); (case he => walk_at "at"))
  | ((with_reducible refine' g_setL ?hs ?he ?_); (case hs => walk_at "hp"); (case he => rfl))
  | ((with_reducible refine' g_app ?hs ?hz ?_); (case hs => walk_at "hp"); (case hz => walk_at "sz"))
  | ((with_reducible refine' ⟨_, _, rfl, Or.inl ?hs, ?_⟩); (case hs => walk_at "lk"))
  | ((with_reducible refine' ⟨_, _, rfl, Or.inr ?hs, ?_⟩); (case hs => walk_at "lk"))
  | with_reducible refine' g_BM ?_ | with_reducible refine' g_BM0 ?_ | ((with_reducible refine' g_tyL ?hs ?_); (case hs => walk_at "lk"))
  | with_reducible refine' g_sl ?_ | with_reducible refine' g_noPart ?_ | with_reducible refine' g_part ?_
  | ((with_reducible refine' g_inT ?hs ?fx ?fs ?_); (case hs => walk_at "lk"); (case fx => rfl); (case fs => rfl))
  | with_reducible refine' g_pair ?_ | with_reducible refine' g_pair0 ?_ | with_reducible refine' g_disp ?_
  | with_reducible refine' g_for ?_ | with_reducible refine' g_tupC ?_ | with_reducible refine' g_lstC ?_ | ((with_reducible refine' g_lens ?_)) | with_reducible refine' g_dg ?_ | with_reducible refine' g_lc ?_ | with_reducible refine' g_rng1 ?_ | with_reducible refine' g_ilist ?_ | with_reducible refine' g_itup ?_
  | ((with_reducible refine' ⟨_, _, rfl, ?hd, ?_⟩); (case hd => walk_at "dg"))
  | ((with_reducible refine' g_eqNil ?hs ?hz ?_); (case hs => walk_at "lk"); (case hz => walk_at "lk"))
  | ((with_reducible refine' g_neNil ?hs ?hz ?_); (case hs => walk_at "lk"); (case hz => walk_at "lk"))
  | with_reducible refine Or.inl ⟨_, rfl, ?_⟩
  | with_reducible refine Or.inr ⟨_, rfl, ?_⟩
  | ((with_reducible refine' g_eq ?hs ?_); (case hs => rfl))
  | ((with_reducible refine' g_ne ?hs ?_); (case hs => rfl))
  | ((with_reducible refine' g_I ?hc ?_); (case hc => walk_at "ar")))
/-- arithmetic's side conditions -/
local macro_rules | `(tactic| walk_at "ar") => `(tactic| (first
  | (show (0 : Int) < _; first | omega | decide) | (show (0 : Int) < _ ∧ _; constructor <;> omega) | (show ¬ (_ : Int) = _; omega) | (show (_ : Int) ≠ _ ∧ _; constructor <;> omega)
  | (show (-(2 ^ 64) < _ ∧ _) ∨ _; (first | (left; constructor <;> omega) | (right; constructor <;> omega))) | (show (0 : Int) ≤ _ ∧ _ ∧ _; refine ⟨by omega, by omega, by decide⟩)))
/-- what stands at an index -/
local macro_rules | `(tactic| walk_at "at") => `(tactic| first | rfl | assumption)
/-- what stands at an address -/
local macro_rules | `(tactic| walk_at "hp") => `(tactic| first | assumption | exact upd_same | ((refine' Eq.trans (upd_ne ?hn) ?hm); (case hm => walk_at "hp"); (case hn => walk_at "ne")))
/-- two places are two -/
local macro_rules | `(tactic| walk_at "ne") => `(tactic| first
  | assumption | exact Ne.symm (by assumption)
  | ((refine' ne_of_none ?ha ?hb); (case hb => assumption); (case ha => walk_at "hp")) | ((refine' Ne.symm (ne_of_none ?ha ?hb)); (case hb => assumption); (case ha => walk_at "hp")))
/-- what a dict tells -/
local macro_rules | `(tactic| walk_at "dg") => `(tactic| first | assumption)
/-- a length -/
local macro_rules | `(tactic| walk_at "sz") => `(tactic| first | (show _ ≤ sizeLine; decide) | (show _ < sizeLine; decide) | assumption | exact szlt (by simp) | exact szle (by simp))
/-- a list or tuple that stands -/
local macro_rules | `(tactic| walk_at "lk") => `(tactic| first | assumption | exact SqL.of (by assumption) | exact SqT.of (by assumption) | exact SqL.of upd_same | exact SqT.of upd_same | (refine' FzL.sq ?hm; (case hm => walk_at "fz")))
/-- a list that nobody writes -/
local macro_rules | `(tactic| walk_at "fz") => `(tactic| first | assumption | ((refine' FzL.uw ?hm ?hx); (case hx => walk_at "hp"); (case hm => walk_at "fz")) | ((refine' FzL.nw ?hm ?hx); (case hx => assumption); (case hm => walk_at "fz")))
/-- as far as it goes by itself -/
local macro_rules | `(tactic| walk_at "g") => `(tactic| repeat walk_at "g1")
/-- the body's reading, its places in short -/
local macro_rules | `(tactic| walk_at "go") => `(tactic| ((try dsimp only [cxOf, Cx.nox, Cx.wish]); walk_at "g"))
namespace K3
open PySem PySem.Spec PyProof.Rows L2 Bq
section
variable {P : Program} {w : World} {K : PySem.W.Frag} {mg : Str → Option Value} {base : Heap}
/-- further steps: dicts written, tuples taken apart -/
local macro_rules | `(tactic| walk_at "g1") => `(tactic| first
  | with_reducible refine' g_sdput ?_
  | ((with_reducible refine' g_gtup ?hs ?hl ?_); (case hs => walk_at "lk"); (case hl => rfl))
  | with_reducible refine' g_gcons ?_
  | with_reducible refine' g_gnil ?_
  | with_reducible refine' And.intro (Eq.refl V.non) ?_
  | with_reducible refine' g_isN ?_
  | ((with_reducible refine' g_chainR ?ha ?hb ?hc ?_); (case ha => intro R q; walk_at "g"; exact q); (case hb => intro R q; walk_at "g"; exact q); (case hc => intro R q; walk_at "g"; exact q))
  | with_reducible refine' g_notN ?_)
/-- what the law's dict tells -/
local macro_rules | `(tactic| walk_at "dg") => `(tactic| first
  | assumption
  | exact LH.gfuns (by assumption)
  | exact LH.gsaid (by assumption)
  | exact LH.gcells (by assumption)
  | exact LH.gfuel (by assumption)
  | exact LH.gend (by assumption)
  | exact LH.gcalls (by assumption)
  | exact LH.gnames (by assumption)
  | exact LH.gwaits (by assumption)
  | exact LH.gworth (by assumption)
  | exact LH.glook (by assumption))
/-- a test that fails, that holds, by itself -/
local macro_rules | `(tactic| walk_at "no") => `(tactic| ((refine tkF rfl ?_); walk_at "g"))
local macro_rules | `(tactic| walk_at "yes") => `(tactic| ((refine tkT rfl ?_); walk_at "g"))
local macro_rules | `(tactic| walk_at "g1") => `(tactic| first
  | with_reducible refine' g_catS ?_
  | with_reducible refine' g_mulS ?_
  | with_reducible refine' g_rev ?_)
/-- numbers in lists, more -/
local macro_rules | `(tactic| walk_at "g1") => `(tactic| first
  | with_reducible refine' g_augS ?_
  | with_reducible refine' g_ipI ?_
  | with_reducible refine' g_revL ?_
  | ((with_reducible refine' g_getL ?hs ?he ?_); (case hs => walk_at "lk"); (case he => walk_at "at"))
  | with_reducible refine' g_enum ?_)
open Fl
def spLeast (K : PySem.W.Frag) : Sp := fun vs H Q _ => ∃ a es E, vs = [.ref a] ∧ SqL K H a es ∧ Reps K H es (E.map leT) ∧ OkLE E ∧ OkRow E ∧ E.length ≤ 400 ∧ ∀ H' l fs h, Ch K [] H H' → H l = none → H' l = some (.lst (hv E.length h)) → Best (linksOf E) fs h → Q (.ref l) H'
theorem fn_least (C : Cn w K mg base) : Fn P w K mg base CX0 4 "least_stages" ["layer"] (spLeast K) := C.f_least_stages fun fd F => by
  have F_fullest : Fn P w K mg base CX0 3 "fullest" ["many", "links"] (spFullest K) := fn_fullest C
  have F_links_of : Fn P w K mg base CX0 2 "links_of" ["layer"] (spLinks K) := fn_links C
  refine F.ok (CX := CX0) sc_least_stages (fun vs H Q E h => ?_) (fun cdv A outer s H vs Q E hr h => ?_)
  · obtain ⟨a, es, E, rfl, _⟩ := h
    rfl
  · obtain ⟨a, es, E, rfl, ha, re, o, okr, lE, q⟩ := h
    refine ⟨_, PSs.nox (pss_cons (ps_asg (pe_fn F_fullest (rmm hr) (by rfl) pass0 (pa_cons (pe_callB call_len_seq (by rfl) (C.m_len) PySem.boot_len (pa_cons (pv 0) pa_nil)) (pa_cons (pe_fn F_links_of (rmm hr) (by rfl) pass0 (pa_cons (pv 0) pa_nil)) pa_nil))) (pg_tup rfl (pgs_cons (pg_name (i := 1) sc_least_stages.nd rfl (Or.inl rfl)) (pgs_cons (pg_name (i := 2) sc_least_stages.nd rfl (Or.inl rfl)) pgs_nil))))
      (pss_one (ps_ret (pv 2)))), ?_⟩
    have le : es.length = E.length := by rw [re.len, List.length_map]
    have n1 := o.n1
    have n2 := o.n2
    have ll := linksOf_len E
    walk_at "go"
    refine ⟨a, es, E, rfl, ha, re, o, okr, fun H1 l us c1 nl e1 r1 => ?_⟩
    walk_at "g"
    refine ⟨E.length, l, us, linksOf E, by rw [le], SqL.of e1, r1, okln_of o, n1, n2, by omega, fun H2 p fl hl fs h c2 ep nf nh ne ef eh b => ?_⟩
    have sp := SqT.of (K := K) ep
    walk_at "g"
    exact q H2 hl fs h (c1.trans c2) (c1.free nh (by simp)) eh b
theorem lenD (d : Dd) : (layD d).length = szPs (innerD d) + 1 := layT_len (.d d) 0
def spStages (K : PySem.W.Frag) : Sp := fun vs H Q _ => ∃ v d ps, vs = [v] ∧ Rep K H v (encDd d) ∧ WfDd ps d ∧ szPs (innerD d) ≤ 40 ∧ ∀ H' l fs h, Ch K [] H H' → H l = none → H' l = some (.lst (hv (layD d).length h)) → Best (linksOf (layD d)) fs h → Q (.ref l) H'
theorem fn_stages (C : Cn w K mg base) : Fn P w K mg base CX0 46 "stages" ["deed"] (spStages K) := C.f_stages fun fd F => by
  have F_layers : Fn P w K mg base CX0 45 "layers" ["deed"] (spLayers K) := fn_layers C
  have F_least_stages : Fn P w K mg base CX0 4 "least_stages" ["layer"] (spLeast K) := fn_least C
  refine F.ok (CX := CX0) sc_stages (fun vs H Q E h => ?_) (fun cdv A outer s H vs Q E hr h => ?_)
  · obtain ⟨v, d, ps, rfl, _⟩ := h
    rfl
  · obtain ⟨v, d, ps, rfl, rep, W, sz, q⟩ := h
    refine ⟨_, PSs.nox (pss_one (ps_ret (pe_fn F_least_stages (rmm hr) (by rfl) pass0 (pa_cons (pe_fn F_layers (rmm hr) (by rfl) pass0 (pa_cons (pv 0) pa_nil)) pa_nil)))), ?_⟩
    walk_at "go"
    refine ⟨v, d, ps, rfl, rep, W, sz, fun H1 l es c1 nl e1 r1 => ?_⟩
    walk_at "g"
    exact ⟨l, es, layD d, rfl, SqL.of e1, r1, okLE_D sz, okrow_D d, by rw [lenD]; omega, fun H2 l2 fs h c2 n2 e2 b => q H2 l2 fs h (c1.trans c2) (c1.free n2 (by simp)) e2 b⟩
theorem cutV_to {xs : List V} {n : Nat} (h : n ≤ xs.length) : cutV xs none (some (n : Nat)) = xs.take n := by
  have e1 : HT.sIx xs.length xs.length (some (n : Int)) = n := by
    rw [HT.sIx_nat]
    omega
  have e2 : HT.sIx xs.length 0 none = 0 := rfl
  unfold cutV
  rw [e1, e2]
  rw [Nat.sub_zero, List.drop_zero]
theorem cutV_from {xs : List V} {n : Nat} (h : n ≤ xs.length) : cutV xs (some (n : Nat)) none = xs.drop n := by
  have e1 : HT.sIx xs.length 0 (some (n : Int)) = n := by
    rw [HT.sIx_nat]
    omega
  have e2 : HT.sIx xs.length xs.length none = xs.length := rfl
  unfold cutV
  rw [e1, e2, List.take_of_length_le (by rw [List.length_drop]; omega)]
theorem iv_take (fs : List Int) (n : Nat) : (iv fs).take n = iv (fs.take n) := by simp [iv, List.map_take]
theorem iv_drop (fs : List Int) (n : Nat) : (iv fs).drop n = iv (fs.drop n) := by simp [iv, List.map_drop]
end
end K3
end

section
set_option maxRecDepth 100000
set_option maxHeartbeats 1000000
open Bq L2
/-- one step of a reading; what is left are side goals and places to think -/
local macro_rules | `(tactic| walk_at "g1") => `(tactic| first
  | with_reducible refine' g_seq ?_ | with_reducible refine' g_asg ?_ | with_reducible refine' g_drop ?_ | with_reducible refine' g_ret ?_ | with_reducible refine' g_ifS ?_ | with_reducible refine' g_asgG ?_
  | ((with_reducible refine' g_var ?hv ?_); (case hv => rfl))
  | with_reducible refine' g_c ?_ | with_reducible refine' g_op ?_ | with_reducible refine' g_un ?_ | with_reducible refine' g_I0 ?_ | with_reducible refine' g_U ?_
  | with_reducible refine' g_test ?_ | with_reducible refine' g_tB ?_ | with_reducible refine Exists.intro _ (And.intro rfl ?_) 
  | ((with_reducible refine' g_andP ?ha ?hb ?_); (case ha => intro R q; walk_at "g"; exact q); (case hb => intro R q; walk_at "g"; exact q))
  | ((with_reducible refine' g_orP ?ha ?hb ?_); (case ha => intro R q; walk_at "g"; exact q); (case hb => intro R q; walk_at "g"; exact q))
  | with_reducible refine' g_and ?_ | with_reducible refine' g_or ?_ | with_reducible refine' g_not ?_
  | with_reducible refine' g_andV ?_ | with_reducible refine' g_orV ?_ | with_reducible refine' g_notV ?_ | with_reducible refine' g_if ?_ | with_reducible refine' g_nil ?_ | with_reducible refine' g_cons ?_
  | with_reducible refine' g_tup ?_ | with_reducible refine' g_lst ?_ | with_reducible refine' g_CB ?_ | with_reducible refine' g_Fn ?_ | with_reducible refine' g_next ?_ | with_reducible refine' g_retN ?_
  | with_reducible refine' g_name ?_ | with_reducible refine' g_sub ?_
  | ((with_reducible refine' g_ixL ?hs ?he ?_); (case hs => walk_at "lk"); (case he => walk_at "at"))
  | ((with_reducible refine' g_ixT ?hs ?he ?_); (case hs => walk_at "lk"); (case he => walk_at "at"))
  | ((with_reducible refine' g_setL ?hs ?he ?_); (case hs => walk_at "hp"); (case he => rfl))
  | ((with_reducible refine' g_app ?hs ?hz ?_); (case hs => walk_at "hp"); (case hz => walk_at "sz"))
  | ((with_reducible refine' ⟨_, _, rfl, Or.inl ?hs, ?_⟩); (case hs => walk_at "lk"))
  | ((with_reducible refine' ⟨_, _, rfl, Or.inr ?hs, ?_⟩); (case hs => walk_at "lk"))
  | with_reducible refine' g_BM ?_ | with_reducible refine' g_BM0 ?_ | ((with_reducible refine' g_tyL ?hs ?_); (case hs => walk_at "lk"))
  | with_reducible refine' g_sl ?_ | with_reducible refine' g_noPart ?_ | with_reducible refine' g_part ?_
  | ((with_reducible refine' g_inT ?hs ?fx ?fs ?_); (case hs => walk_at "lk"); (case fx => rfl); (case fs => rfl))
  | with_reducible refine' g_pair ?_ | with_reducible refine' g_pair0 ?_ | with_reducible refine' g_disp ?_
  | with_reducible refine' g_for ?_ | with_reducible refine' g_tupC ?_ | with_reducible refine' g_lstC ?_ | ((with_reducible refine' g_lens ?_)) | with_reducible refine' g_dg ?_ | with_reducible refine' g_lc ?_ | with_reducible refine' g_rng1 ?_ | with_reducible refine' g_ilist ?_ | with_reducible refine' g_itup ?_
  | ((with_reducible refine' ⟨_, _, rfl, ?hd, ?_⟩); (case hd => walk_at "dg"))
  | ((with_reducible refine' g_eqNil ?hs ?hz ?_); (case hs => walk_at "lk"); (case hz => walk_at "lk"))
  | ((with_reducible refine' g_neNil ?hs ?hz ?_); (case hs => walk_at "lk"); (case hz => walk_at "lk"))
  | with_reducible refine Or.inl ⟨_, rfl, ?_⟩
  | with_reducible refine Or.inr ⟨_, rfl, ?_⟩
  | ((with_reducible refine' g_eq ?hs ?_); (case hs => rfl))
  | ((with_reducible refine' g_ne ?hs ?_); (case hs => rfl))
  | ((with_reducible refine' g_I ?hc ?_); (case hc => walk_at "ar")))
/-- arithmetic's side conditions -/
local macro_rules | `(tactic| walk_at "ar") => `(tactic| (first
  | (show (0 : Int) < _; first | omega | decide) | (show (0 : Int) < _ ∧ _; constructor <;> omega) | (show ¬ (_ : Int) = _; omega) | (show (_ : Int) ≠ _ ∧ _; constructor <;> omega)
  | (show (-(2 ^ 64) < _ ∧ _) ∨ _; (first | (left; constructor <;> omega) | (right; constructor <;> omega))) | (show (0 : Int) ≤ _ ∧ _ ∧ _; refine ⟨by omega, by omega, by decide⟩)))
/-- what stands at an index -/
local macro_rules | `(tactic| walk_at "at") => `(tactic| first | rfl | assumption)
/-- what stands at an address -/
local macro_rules | `(tactic| walk_at "hp") => `(tactic| first | assumption | exact upd_same | ((refine' Eq.trans (upd_ne ?hn) ?hm); (case hm => walk_at "hp"); (case hn => walk_at "ne")))
/-- two places are two -/
local macro_rules | `(tactic| walk_at "ne") => `(tactic| first
  | assumption | exact Ne.symm (by assumption)
  | ((refine' ne_of_none ?ha ?hb); (case hb => assumption); (case ha => walk_at "hp")) | ((refine' Ne.symm (ne_of_none ?ha ?hb)); (case hb => assumption); (case ha => walk_at "hp")))
/-- what a dict tells -/
local macro_rules | `(tactic| walk_at "dg") => `(tactic| first | assumption)
/-- a length -/
local macro_rules | `(tactic| walk_at "sz") => `(tactic| first | (show _ ≤ sizeLine; decide) | (show _ < sizeLine; decide) | assumption | exact szlt (by simp) | exact szle (by simp))
/-- a list or tuple that stands -/
local macro_rules | `(tactic| walk_at "lk") => `(tactic| first | assumption | exact SqL.of (by assumption) | exact SqT.of (by assumption) | exact SqL.of upd_same | exact SqT.of upd_same | (refine' FzL.sq ?hm; (case hm => walk_at "fz")))
/-- a list that nobody writes -/
local macro_rules | `(tactic| walk_at "fz") => `(tactic| first | assumption | ((refine' FzL.uw ?hm ?hx); (case hx => walk_at "hp"); (case hm => walk_at "fz")) | ((refine' FzL.nw ?hm ?hx); (case hx => assumption); (case hm => walk_at "fz")))
/-- as far as it goes by itself -/
local macro_rules | `(tactic| walk_at "g") => `(tactic| repeat walk_at "g1")
/-- the body's reading, its places in short -/
local macro_rules | `(tactic| walk_at "go") => `(tactic| ((try dsimp only [cxOf, Cx.nox, Cx.wish]); walk_at "g"))
namespace K3
open PySem PySem.Spec PyProof.Rows L2 Bq
section
variable {P : Program} {w : World} {K : PySem.W.Frag} {mg : Str → Option Value} {base : Heap}
/-- further steps: dicts written, tuples taken apart -/
local macro_rules | `(tactic| walk_at "g1") => `(tactic| first
  | with_reducible refine' g_sdput ?_
  | ((with_reducible refine' g_gtup ?hs ?hl ?_); (case hs => walk_at "lk"); (case hl => rfl))
  | with_reducible refine' g_gcons ?_
  | with_reducible refine' g_gnil ?_
  | with_reducible refine' And.intro (Eq.refl V.non) ?_
  | with_reducible refine' g_isN ?_
  | ((with_reducible refine' g_chainR ?ha ?hb ?hc ?_); (case ha => intro R q; walk_at "g"; exact q); (case hb => intro R q; walk_at "g"; exact q); (case hc => intro R q; walk_at "g"; exact q))
  | with_reducible refine' g_notN ?_)
/-- what the law's dict tells -/
local macro_rules | `(tactic| walk_at "dg") => `(tactic| first
  | assumption
  | exact LH.gfuns (by assumption)
  | exact LH.gsaid (by assumption)
  | exact LH.gcells (by assumption)
  | exact LH.gfuel (by assumption)
  | exact LH.gend (by assumption)
  | exact LH.gcalls (by assumption)
  | exact LH.gnames (by assumption)
  | exact LH.gwaits (by assumption)
  | exact LH.gworth (by assumption)
  | exact LH.glook (by assumption))
/-- a test that fails, that holds, by itself -/
local macro_rules | `(tactic| walk_at "no") => `(tactic| ((refine tkF rfl ?_); walk_at "g"))
local macro_rules | `(tactic| walk_at "yes") => `(tactic| ((refine tkT rfl ?_); walk_at "g"))
local macro_rules | `(tactic| walk_at "g1") => `(tactic| first
  | with_reducible refine' g_catS ?_
  | with_reducible refine' g_mulS ?_
  | with_reducible refine' g_rev ?_)
/-- numbers in lists, more -/
local macro_rules | `(tactic| walk_at "g1") => `(tactic| first
  | with_reducible refine' g_augS ?_
  | with_reducible refine' g_ipI ?_
  | with_reducible refine' g_revL ?_
  | ((with_reducible refine' g_getL ?hs ?he ?_); (case hs => walk_at "lk"); (case he => walk_at "at"))
  | with_reducible refine' g_enum ?_)
open Fl
theorem call_isiK (K : PySem.W.Frag) {X : Cx} (hK : X.K = K := by rfl) : CallR X (.builtin "isinstance") (rIsi K) := hK ▸ call_isi
theorem call_lenK (K : PySem.W.Frag) {X : Cx} (hK : X.K = K := by rfl) : CallR X (.builtin "len") (fun xs H Q => ∃ p ys, xs = [V.ref p] ∧ (SqL K H p ys ∨ SqT K H p ys) ∧ Q (V.int ↑ys.length) H) := hK ▸ call_len_seq
/-- xs[-1] op= e -/
def rGetN (K : PySem.W.Frag) : V → V → Hp → VK → Prop := fun o i H Q => ∃ p xs k z, o = .ref p ∧ i = .int k ∧ k < 0 ∧ SqL K H p xs ∧ atI xs k = some z ∧ Q z H
theorem get_listN {X : Cx} : PGet X (rGetN X.K) := by
  intro pins s σ H o i ov iv Q I ro ri h
  obtain ⟨p, xs, k, z, rfl, rfl, h0, hp, he, q⟩ := h
  cases ro
  obtain ⟨t, rfl⟩ := ri
  obtain ⟨its, r, pl, hz⟩ := I.list hp
  obtain ⟨j, h1, h2, h3, h4, h5⟩ := atI_get he
  obtain ⟨w, ew, rw'⟩ := r.get h2
  have hl := r.length
  have hn := line63
  have hj : (k + (its.toArray.size : Int)).toNat = j := by
    rw [seqIndex_neg (by omega) h4] at h1
    rw [List.size_toArray, ← hl]
    exact Option.some.inj h1
  exact wpAny_getItem_list_neg (x := w) pl.isList h0 (by rw [List.size_toArray]; omega) (by omega) (by rw [hj]; simpa using ew) ⟨z, H, I, rw', q⟩
theorem sum_same (l : List Nat) (c : Int) : (l.map fun _ => c).sum = c * l.length := by
  induction l with
  | nil => simp
  | cons a r ih => rw [List.map_cons, List.sum_cons, ih, List.length_cons, Int.natCast_add, Int.mul_add]; simp; omega
theorem perm_sum {l l' : List Int} (h : l.Perm l') : l.sum = l'.sum := by
  induction h with
  | nil => rfl
  | cons a _ ih => simp only [List.sum_cons, ih]
  | swap a b l => simp only [List.sum_cons]; omega
  | trans _ _ i1 i2 => rw [i1, i2]
def lft (E : List LE) (v : Nat) : Int := 1 - ((E.getD v ⟨.int 0, []⟩).kids.length : Nat)
def lftn (E : List LE) (v : Nat) : Int := lft E v - if v = E.length - 1 then 1 else 0
theorem kid_sum {v : Nat} : ∀ {E : List LE} {i : Nat} {f : Nat → Nat}, (kidsAll E).Nodup → i ≤ v → v < i + E.length → ((kidsAll E).map fun k => ind v (parF E i f k)).sum = ((E.getD (v - i) ⟨.int 0, []⟩).kids.length : Nat)
  | [], i, f, _, h1, h2 => by simp at h2; omega
  | e :: r, i, f, nd, h1, h2 => by
    simp only [kidsAll, List.nodup_append] at nd
    simp only [kidsAll, List.map_append, List.sum_append]
    have a1 : (e.kids.map fun k => ind v (parF (e :: r) i f k)) = e.kids.map fun k => ind v i := by
      refine List.map_congr_left fun k hk => ?_
      rw [parF, parF_out (fun z => nd.2.2 k hk k z rfl), fold_in hk]
    have a2 : ((kidsAll r).map fun k => ind v (parF (e :: r) i f k)) = (kidsAll r).map fun k => ind v (parF r (i + 1) (e.kids.foldl (fun g k => fupd g k i) f) k) := rfl
    rw [a1, a2]
    by_cases e1 : i = v
    · subst e1
      rw [Nat.sub_self, List.getD_cons_zero]
      have z : ((kidsAll r).map fun k => ind i (parF r (i + 1) (e.kids.foldl (fun g k => fupd g k i) f) k)) = (kidsAll r).map fun k => 0 := by
        refine List.map_congr_left fun k hk => ?_
        obtain ⟨j, e', hj, hk'⟩ := kidsAll_mem hk
        rw [parF_in nd.2.1 hj hk']
        unfold ind
        rw [if_neg (by omega)]
      rw [z]
      unfold ind
      rw [if_pos rfl, sum_same, sum_same]
      simp
    · have ih := kid_sum (v := v) (E := r) (i := i + 1) (f := e.kids.foldl (fun g k => fupd g k i) f) nd.2.1 (by omega) (by simp at h2; omega)
      rw [ih, sum_same, show v - i = (v - (i + 1)) + 1 by omega, List.getD_cons_succ]
      unfold ind
      rw [if_neg e1]
      simp
theorem rng_ind (v : Nat) : ∀ m : Nat, ((List.range m).map (ind v)).sum = if v < m then 1 else 0
  | 0 => by simp
  | m + 1 => by
    rw [List.range_succ, List.map_append, List.sum_append, rng_ind v m]
    simp only [List.map_cons, List.map_nil, List.sum_cons, List.sum_nil]
    unfold ind
    by_cases h : v < m
    · rw [if_pos h, if_neg (by omega), if_pos (by omega)]; rfl
    · by_cases e : m = v
      · rw [if_neg h, if_pos e, if_pos (by omega)]; rfl
      · rw [if_neg h, if_neg e, if_neg (by omega)]; rfl
theorem sum_sub1 (f g : Nat → Int) : ∀ l : List Nat, (l.map fun k => f k - g k - 1).sum = (l.map f).sum - (l.map g).sum - l.length
  | [] => by simp
  | a :: r => by
    simp only [List.map_cons, List.sum_cons, sum_sub1 f g r, List.length_cons]
    omega
theorem OkLE.perm {E : List LE} (o : OkLE E) : (kidsAll E).Perm (List.range (E.length - 1)) :=
  (List.perm_ext_iff_of_nodup o.nd List.nodup_range).mpr fun k => by rw [o.mem k, List.mem_range]
theorem linksP_one (E : List LE) : ∀ l ∈ linksP E, l.ri = 1 := by
  intro l hl
  obtain ⟨k, _, rfl⟩ := List.mem_map.mp hl
  rfl
theorem pairs_zero (E : List LE) : ∀ l ∈ pairsL (loudsOf E), l.ri = 0 := fun l hl => (pairsL_mem (loudL_up E 0) hl).2.2
/-- the turns, by the ones around -/
def turnsE (E : List LE) (x : Nat → Int) : Int := ((List.range (E.length - 1)).map fun k => x (parE E k) - x k - 1).sum
theorem tnl_turns (E : List LE) (x : Nat → Int) : (tnl x (linksOf E)).sum = turnsE E x := by
  unfold linksOf
  rw [tnl_app, tnl_zero x (pairs_zero E), List.append_nil, tnl_one x (linksP_one E)]
  unfold linksP turnsE
  rw [List.map_map]
  rfl
theorem span_turns (E : List LE) (x : Nat → Int) : span x (linksOf E) = turnsE E x + ((E.length - 1 : Nat) : Int) := by
  unfold linksOf
  rw [span_app, span_zero x (pairs_zero E), Int.add_zero, span_one x (linksP_one E), linksP_len]
  unfold linksP turnsE
  rw [List.map_map]
  rfl
theorem kids_turns {E : List LE} (o : OkLE E) (x : Nat → Int) : ((kidsAll E).map fun k => x (parE E k) - x k - 1).sum = turnsE E x :=
  perm_sum (o.perm.map _)
theorem left_zero {E : List LE} (o : OkLE E) {fs : List Int} (w : Flow (linksOf E) fs) {v : Nat} (hv : v < E.length) : lftn E v + fx (ind v) (linksOf E) fs = 0 := by
  rw [w.eq]
  have h := span_turns E (ind v)
  unfold span at h
  rw [h]
  unfold turnsE
  rw [sum_sub1 (fun k => ind v (parE E k)) (ind v), rng_ind, List.length_range]
  have h1 := kid_sum (v := v) (E := E) (i := 0) (f := fun _ => 0) o.nd (by omega) (by omega)
  have h2 : ((kidsAll E).map fun k => ind v (parF E 0 (fun _ => 0) k)).sum = ((List.range (E.length - 1)).map fun k => ind v (parE E k)).sum := perm_sum (o.perm.map _)
  rw [Nat.sub_zero] at h1
  rw [← h2, h1]
  unfold lftn lft
  have := o.n1
  by_cases e : v = E.length - 1
  · rw [if_pos e, if_neg (by omega)]; omega
  · rw [if_neg e, if_pos (by omega)]; omega
theorem bound_turns {E : List LE} {fs : List Int} {h : Nat → Int} (b : Best (linksOf E) fs h) : (fs.take (E.length - 1)).sum - ((E.length - 1 : Nat) : Int) = turnsE E h := by
  have h1 := b.span
  rw [span_turns] at h1
  have e : fs = fs.take (E.length - 1) ++ fs.drop (E.length - 1) := (List.take_append_drop _ _).symm
  have l1 : (fs.take (E.length - 1)).length = E.length - 1 := by
    rw [List.length_take]
    have := b.w.len
    unfold linksOf at this
    rw [List.length_append, linksP_len] at this
    omega
  rw [e] at h1
  unfold linksOf at h1
  rw [fr_app (by rw [linksP_len, l1]), fr_one (by rw [linksP_len, l1]) (linksP_one E), fr_zero (pairs_zero E)] at h1
  omega
end
end K3
end

section
set_option maxRecDepth 100000
set_option maxHeartbeats 1000000
open Bq L2
/-- one step of a reading; what is left are side goals and places to think -/
local macro_rules | `(tactic| walk_at "g1") => `(tactic| first
  | with_reducible refine' g_seq ?_ | with_reducible refine' g_asg ?_ | with_reducible refine' g_drop ?_ | with_reducible refine' g_ret ?_ | with_reducible refine' g_ifS ?_ | with_reducible refine' g_asgG ?_
  | ((with_reducible refine' g_var ?hv ?_); (case hv => rfl))
  | with_reducible refine' g_c ?_ | with_reducible refine' g_op ?_ | with_reducible refine' g_un ?_ | with_reducible refine' g_I0 ?_ | with_reducible refine' g_U ?_
  | with_reducible refine' g_test ?_ | with_reducible refine' g_tB ?_ | with_reducible refine Exists.intro _ (And.intro rfl ?_) 
  | ((with_reducible refine' g_andP ?ha ?hb ?_); (case ha => intro R q; walk_at "g"; exact q); (case hb => intro R q; walk_at "g"; exact q))
  | ((with_reducible refine' g_orP ?ha ?hb ?_); (case ha => intro R q; walk_at "g"; exact q); (case hb => intro R q; walk_at "g"; exact q))
  | with_reducible refine' g_and ?_ | with_reducible refine' g_or ?_ | with_reducible refine' g_not ?_
  | with_reducible refine' g_andV ?_ | with_reducible refine' g_orV ?_ | with_reducible refine' g_notV ?_ | with_reducible refine' g_if ?_ | with_reducible refine' g_nil ?_ | with_reducible refine' g_cons ?_
  | with_reducible refine' g_tup ?_ | with_reducible refine' g_lst ?_ | with_reducible refine' g_CB ?_ | with_reducible refine' g_Fn ?_ | with_reducible refine' g_next ?_ | with_reducible refine' g_retN ?_
  | with_reducible refine' g_name ?_ | with_reducible refine' g_sub ?_
  | ((with_reducible refine' g_ixL ?hs ?he ?_); (case hs => walk_at "lk"); (case he => walk_at "at"))
  | ((with_reducible refine' g_ixT ?hs ?he ?_); (case hs => walk_at "lk"); (case he => walk_at "at"))
  | ((with_reducible refine' g_setL ?hs ?he ?_); (case hs => walk_at "hp"); (case he => rfl))
  | ((with_reducible refine' g_app ?hs ?hz ?_); (case hs => walk_at "hp"); (case hz => walk_at "sz"))
  | ((with_reducible refine' ⟨_, _, rfl, Or.inl ?hs, ?_⟩); (case hs => walk_at "lk"))
  | ((with_reducible refine' ⟨_, _, rfl, Or.inr ?hs, ?_⟩); (case hs => walk_at "lk"))
  | with_reducible refine' g_BM ?_ | with_reducible refine' g_BM0 ?_ | ((with_reducible refine' g_tyL ?hs ?_); (case hs => walk_at "lk"))
  | with_reducible refine' g_sl ?_ | with_reducible refine' g_noPart ?_ | with_reducible refine' g_part ?_
  | ((with_reducible refine' g_inT ?hs ?fx ?fs ?_); (case hs => walk_at "lk"); (case fx => rfl); (case fs => rfl))
  | with_reducible refine' g_pair ?_ | with_reducible refine' g_pair0 ?_ | with_reducible refine' g_disp ?_
  | with_reducible refine' g_for ?_ | with_reducible refine' g_tupC ?_ | with_reducible refine' g_lstC ?_ | ((with_reducible refine' g_lens ?_)) | with_reducible refine' g_dg ?_ | with_reducible refine' g_lc ?_ | with_reducible refine' g_rng1 ?_ | with_reducible refine' g_ilist ?_ | with_reducible refine' g_itup ?_
  | ((with_reducible refine' ⟨_, _, rfl, ?hd, ?_⟩); (case hd => walk_at "dg"))
  | ((with_reducible refine' g_eqNil ?hs ?hz ?_); (case hs => walk_at "lk"); (case hz => walk_at "lk"))
  | ((with_reducible refine' g_neNil ?hs ?hz ?_); (case hs => walk_at "lk"); (case hz => walk_at "lk"))
  | with_reducible refine Or.inl ⟨_, rfl, ?_⟩
  | with_reducible refine Or.inr ⟨_, rfl, ?_⟩
  | ((with_reducible refine' g_eq ?hs ?_); (case hs => rfl))
  | ((with_reducible refine' g_ne ?hs ?_); (case hs => rfl))
  | ((with_reducible refine' g_I ?hc ?_); (case hc => walk_at "ar")))
/-- arithmetic's side conditions -/
local macro_rules | `(tactic| walk_at "ar") => `(tactic| (first
  | (show (0 : Int) < _; first | omega | decide) | (show (0 : Int) < _ ∧ _; constructor <;> omega) | (show ¬ (_ : Int) = _; omega) | (show (_ : Int) ≠ _ ∧ _; constructor <;> omega)
  | (show (-(2 ^ 64) < _ ∧ _) ∨ _; (first | (left; constructor <;> omega) | (right; constructor <;> omega))) | (show (0 : Int) ≤ _ ∧ _ ∧ _; refine ⟨by omega, by omega, by decide⟩)))
/-- what stands at an index -/
local macro_rules | `(tactic| walk_at "at") => `(tactic| first | rfl | assumption)
/-- what stands at an address -/
local macro_rules | `(tactic| walk_at "hp") => `(tactic| first | assumption | exact upd_same | ((refine' Eq.trans (upd_ne ?hn) ?hm); (case hm => walk_at "hp"); (case hn => walk_at "ne")))
/-- two places are two -/
local macro_rules | `(tactic| walk_at "ne") => `(tactic| first
  | assumption | exact Ne.symm (by assumption)
  | ((refine' ne_of_none ?ha ?hb); (case hb => assumption); (case ha => walk_at "hp")) | ((refine' Ne.symm (ne_of_none ?ha ?hb)); (case hb => assumption); (case ha => walk_at "hp")))
/-- what a dict tells -/
local macro_rules | `(tactic| walk_at "dg") => `(tactic| first | assumption)
/-- a length -/
local macro_rules | `(tactic| walk_at "sz") => `(tactic| first | (show _ ≤ sizeLine; decide) | (show _ < sizeLine; decide) | assumption | exact szlt (by simp) | exact szle (by simp))
/-- a list or tuple that stands -/
local macro_rules | `(tactic| walk_at "lk") => `(tactic| first | assumption | exact SqL.of (by assumption) | exact SqT.of (by assumption) | exact SqL.of upd_same | exact SqT.of upd_same | (refine' FzL.sq ?hm; (case hm => walk_at "fz")))
/-- a list that nobody writes -/
local macro_rules | `(tactic| walk_at "fz") => `(tactic| first | assumption | ((refine' FzL.uw ?hm ?hx); (case hx => walk_at "hp"); (case hm => walk_at "fz")) | ((refine' FzL.nw ?hm ?hx); (case hx => assumption); (case hm => walk_at "fz")))
/-- as far as it goes by itself -/
local macro_rules | `(tactic| walk_at "g") => `(tactic| repeat walk_at "g1")
/-- the body's reading, its places in short -/
local macro_rules | `(tactic| walk_at "go") => `(tactic| ((try dsimp only [cxOf, Cx.nox, Cx.wish]); walk_at "g"))
namespace K3
open PySem PySem.Spec PyProof.Rows L2 Bq
section
variable {P : Program} {w : World} {K : PySem.W.Frag} {mg : Str → Option Value} {base : Heap}
/-- further steps: dicts written, tuples taken apart -/
local macro_rules | `(tactic| walk_at "g1") => `(tactic| first
  | with_reducible refine' g_sdput ?_
  | ((with_reducible refine' g_gtup ?hs ?hl ?_); (case hs => walk_at "lk"); (case hl => rfl))
  | with_reducible refine' g_gcons ?_
  | with_reducible refine' g_gnil ?_
  | with_reducible refine' And.intro (Eq.refl V.non) ?_
  | with_reducible refine' g_isN ?_
  | ((with_reducible refine' g_chainR ?ha ?hb ?hc ?_); (case ha => intro R q; walk_at "g"; exact q); (case hb => intro R q; walk_at "g"; exact q); (case hc => intro R q; walk_at "g"; exact q))
  | with_reducible refine' g_notN ?_)
/-- what the law's dict tells -/
local macro_rules | `(tactic| walk_at "dg") => `(tactic| first
  | assumption
  | exact LH.gfuns (by assumption)
  | exact LH.gsaid (by assumption)
  | exact LH.gcells (by assumption)
  | exact LH.gfuel (by assumption)
  | exact LH.gend (by assumption)
  | exact LH.gcalls (by assumption)
  | exact LH.gnames (by assumption)
  | exact LH.gwaits (by assumption)
  | exact LH.gworth (by assumption)
  | exact LH.glook (by assumption))
/-- a test that fails, that holds, by itself -/
local macro_rules | `(tactic| walk_at "no") => `(tactic| ((refine tkF rfl ?_); walk_at "g"))
local macro_rules | `(tactic| walk_at "yes") => `(tactic| ((refine tkT rfl ?_); walk_at "g"))
local macro_rules | `(tactic| walk_at "g1") => `(tactic| first
  | with_reducible refine' g_catS ?_
  | with_reducible refine' g_mulS ?_
  | with_reducible refine' g_rev ?_)
/-- numbers in lists, more -/
local macro_rules | `(tactic| walk_at "g1") => `(tactic| first
  | with_reducible refine' g_augS ?_
  | with_reducible refine' g_ipI ?_
  | with_reducible refine' g_revL ?_
  | ((with_reducible refine' g_getL ?hs ?he ?_); (case hs => walk_at "lk"); (case he => walk_at "at"))
  | with_reducible refine' g_enum ?_)
open Fl
def spCheckS (K : PySem.W.Frag) : Sp := fun vs H Q _ => ∃ a b es E x, vs = [.ref a, .ref b] ∧ SqL K H a es ∧ Reps K H es (E.map leT) ∧ OkLE E ∧ OkRow E ∧ E.length ≤ 400 ∧ H b = some (.lst (hv E.length x)) ∧ (∀ v, v < E.length → 0 ≤ x v ∧ x v ≤ 1000) ∧ (∀ l ∈ linksOf E, x l.lo + l.ri ≤ x l.up) ∧ ∀ H', Ch K [] H H' → Q .non H'
theorem all_true (n : Nat) : (List.replicate n true).all id = true := by
  rw [List.all_eq_true]
  intro b hb
  rw [(List.mem_replicate.mp hb).2]
  rfl
theorem fn_check_stages (C : Cn w K mg base) : Fn P w K mg base CX0 4 "check_stages" ["layer", "some"] (spCheckS K) := C.f_check_stages fun fd F => by
  have F_links_of : Fn P w K mg base CX0 2 "links_of" ["layer"] (spLinks K) := fn_links C
  have F_is_number := fn_is_number (P := P) (w := w) C
  refine F.ok (CX := CX0) sc_check_stages (fun vs H Q E h => ?_) (fun cdv A outer s H vs Q E hr h => ?_)
  · obtain ⟨a, b, es, E, x, rfl, _⟩ := h
    rfl
  · obtain ⟨a, b, es, E, x, rfl, ha, re, o, okr, lE, hb, hx, hk, q⟩ := h
    refine ⟨_, PSs.nox (pss_cons (ps_if (pt_mid (PW.pt (pw_or (pt_not (pt_val (pe_callB call_isi (by rfl) (C.m_isinstance) (by decide +kernel) (pa_cons (pv 1) (pa_cons (pe_bty "list" (by rfl) (C.m_list) (by decide +kernel)) pa_nil))))) (pw_or1 (pt_cmpR op_ne (pe_callB call_len_seq (by rfl) (C.m_len) PySem.boot_len (pa_cons (pv 1) pa_nil)) (pe_callB call_len_seq (by rfl) (C.m_len) PySem.boot_len (pa_cons (pv 0) pa_nil)) (nomark _)))))) (pss_one ps_never) pss_nil)
      (pss_cons (ps_if (pt_not (pt_val (pe_callB (cr_all rfl) (by rfl) (C.m_all) (by decide +kernel) (pa_cons (pe_lc (own := [("stage", 5)]) (g := gName 5) (tt := tYes) rfl sc_check_stages.nd (pi_list (pv 1)) (blkOk_by (own := [("stage", 5)]) (N := ["layer", "some", "lower", "upper", "rise", "stage"]) (sc := defScope s_check_stages) (by decide +kernel)) (fun _ _ _ _ _ => pg_name (i := 5) sc_check_stages.nd rfl (Or.inl rfl)) (fun _ _ _ _ _ => pts_nil) (fun _ _ _ _ _ => (pe_mid (pe_and (pe_fn F_is_number (rmm hr) (by rfl) pass0 (pa_cons (pv 5) pa_nil)) (pe_one (pe_chain op_le op_le pe_int (pv 5) (pe_iglob (by rfl) C.i_MOST_STAGE))))))) pa_nil)))) (pss_one ps_never) pss_nil)
      (pss_one (ps_for PassesOwn.never rfl (pi_list (pe_fn F_links_of (rmm hr) (by rfl) pass0 (pa_cons (pv 0) pa_nil))) (pg_tup rfl (pgs_cons (pg_name (i := 2) sc_check_stages.nd rfl (Or.inl rfl)) (pgs_cons (pg_name (i := 3) sc_check_stages.nd rfl (Or.inl rfl)) (pgs_cons (pg_name (i := 4) sc_check_stages.nd rfl (Or.inl rfl)) pgs_nil)))) (pss_one (ps_if (pt_cmpR op_lt (pe_op op_sub (pe_ix ix_list (pv 1) (pv 3) (fun _ _ => rfl)) (pe_ix ix_list (pv 1) (pv 2) (fun _ _ => rfl))) (pv 4) (nomark _)) (pss_one ps_never) pss_nil)))))), ?_⟩
    have le : es.length = E.length := by rw [re.len, List.length_map]
    have n1 := o.n1
    have hbl := SqL.of (K := K) hb
    have n2 := o.n2
    walk_at "go"
    refine g_mid (fun b' H' => b' = false ∧ H' = H) ?_ ?_
    · walk_at "g"
      refine g_isi (.base (.lst hb)) (show kitB "list" "list" = some true by decide +kernel) ?_
      walk_at "g"
      walk_at "no"
      exact ⟨by rw [hv_len, le]; simp, rfl⟩
    rintro _ H1 ⟨rfl, e1⟩
    rw [e1]
    walk_at "no"
    refine ⟨⟨_, hbl⟩, fun D nD => ?_⟩
    have nDb : D ≠ b := fun e => by rw [← e, nD] at hb; cases hb
    refine lc_it (walk_list (xs := hv E.length x)) (fun i H' => Ch K [] H H' ∧ H' D = some (.lst ((List.replicate i true).map V.bl))) ⟨Ch.new nD, upd_same⟩ (fun i H' _ p => p.1.sqL hbl (by simp)) ?_ ?_
    · rintro i y _ H2 hi ⟨c1, d1⟩ ⟨rfl, hy⟩
      rw [hv_len] at hi
      rw [hv_at hi] at hy
      cases hy
      have hx1 := hx i hi
      walk_at "g"
      refine ⟨rfl, ?_⟩
      simp only [tYes, ↓reduceIte]
      refine g_midE (fun v' H' => v' = .bl true ∧ H' = H2) ?_ ?_
      · walk_at "g"
        refine ⟨.int (x i), .int (x i), rfl, .int _, ?_⟩
        walk_at "g"
        walk_at "yes"
        refine ⟨.int (x i), rfl, ?_⟩
        show rI0 _ (.int 0) (.int (x i)) H2 _
        walk_at "g"
        rw [if_pos (by simpa using hx1.1)]
        walk_at "g"
        exact ⟨by simp [hx1.2], rfl⟩
      rintro _ H3 ⟨rfl, e3⟩
      rw [e3]
      refine ⟨_, d1, by rw [List.length_map, List.length_replicate, sizeLine_eq]; omega, Ch.wrN c1 nD d1 rfl, ?_⟩
      rw [upd_same, List.replicate_succ', List.map_append]
      rfl
    rintro H2 ⟨c2, d2⟩
    have hb2 := c2.sqL hbl (by simp)
    refine ⟨D, List.replicate (hv E.length x).length true, rfl, SqL.of d2, ?_⟩
    refine ⟨_, rfl, ?_⟩
    rw [if_neg (by rw [all_true]; decide)]
    walk_at "g"
    have ha2 := c2.sqL ha (by simp)
    refine ⟨a, es, E, rfl, ha2, re.kt c2.kt, o, okr, fun H3 ll us c3 n3 e3 r3 => ?_⟩
    have hll : SqL K H3 ll us := SqL.of e3
    have hb3 := c3.sqL hb2 (by simp)
    have lus : us.length = (linksOf E).length := by rw [r3.len, List.length_map]
    walk_at "g"
    refine ⟨⟨_, hll⟩, ?_⟩
    refine for_it (walk_list (xs := us)) (fun i σ' H' => ∃ x2 x3 x4, σ' = [some (.ref a), some (.ref b), x2, x3, x4, none] ∧ Ch K [] H3 H') ⟨_, _, _, rfl, Ch.refl⟩ (fun i σ' H' _ ⟨_, _, _, _, c⟩ => c.sqL hll (by simp)) ?_ ?_
    · rintro i y σ H4 H5 hi ⟨x2, x3, x4, rfl, c4⟩ ⟨rfl, hy⟩
      obtain ⟨l, hl, rl⟩ := reps_map r3 hy
      obtain ⟨la, rfl, hla⟩ := lnk_at (rl.kt c4.kt)
      have hb4 := c4.sqL hb3 (by simp)
      have ol := okln_of o l (List.mem_of_getElem? hl)
      have kl := hk l (List.mem_of_getElem? hl)
      have g1 := atI_nat (hv_at (h := x) (show l.lo < E.length by omega))
      have g2 := atI_nat (hv_at (h := x) (show l.up < E.length by omega))
      refine g_gtup hla rfl ?_
      walk_at "g"
      refine tkF (decide_eq_false (by omega)) ?_
      exact ⟨_, _, _, rfl, c4⟩
    · rintro σ H4 ⟨x2, x3, x4, rfl, c4⟩
      walk_at "g"
      exact q H4 (c2.trans (c3.trans c4))
theorem tnl_snoc {x : Nat → Int} {L : List Lnk} {i : Nat} {l : Lnk} (h : L[i]? = some l) : tnl x (L.take (i + 1)) = tnl x (L.take i) ++ if l.ri = 1 then [x l.up - x l.lo - 1] else [] := by
  rw [take_snoc h, tnl_app]
  congr 1
  unfold tnl
  by_cases e : l.ri = 1
  · rw [if_pos e]
    simp [e]
  · rw [if_neg e]
    simp [e]
theorem tnl_len (x : Nat → Int) (L : List Lnk) : (tnl x L).length ≤ L.length := by
  unfold tnl
  rw [List.length_map]
  exact List.length_filter_le _ _
def spTurns (K : PySem.W.Frag) : Sp := fun vs H Q _ => ∃ v b d ps x, vs = [v, .ref b] ∧ Rep K H v (encDd d) ∧ WfDd ps d ∧ szPs (innerD d) ≤ 40 ∧ H b = some (.lst (hv (layD d).length x)) ∧ (∀ u, u < (layD d).length → 0 ≤ x u ∧ x u ≤ 1000) ∧ (∀ l ∈ linksOf (layD d), x l.lo + l.ri ≤ x l.up) ∧ ∀ H', Ch K [] H H' → Q (.int (tnl x (linksOf (layD d))).sum) H'
theorem fn_turns (C : Cn w K mg base) : Fn P w K mg base CX0 46 "turns" ["deed", "some"] (spTurns K) := C.f_turns fun fd F => by
  have F_layers : Fn P w K mg base CX0 45 "layers" ["deed"] (spLayers K) := fn_layers C
  have F_check_stages : Fn P w K mg base CX0 4 "check_stages" ["layer", "some"] (spCheckS K) := fn_check_stages C
  have F_links_of : Fn P w K mg base CX0 2 "links_of" ["layer"] (spLinks K) := fn_links C
  refine F.ok (CX := CX0) sc_turns (fun vs H Q E h => ?_) (fun cdv A outer s H vs Q E hr h => ?_)
  · obtain ⟨v, b, d, ps, x, rfl, _⟩ := h
    rfl
  · obtain ⟨v, b, d, ps, x, rfl, rep, W, sz, hb, hx, hk, q⟩ := h
    refine ⟨_, PSs.nox (pss_cons (ps_set (i := 2) sc_turns.nd rfl (Or.inl rfl) (pe_fn F_layers (rmm hr) (by rfl) pass0 (pa_cons (pv 0) pa_nil)))
      (pss_cons (ps_expr (pe_fn F_check_stages (rmm hr) (by rfl) pass0 (pa_cons (pv 2) (pa_cons (pv 1) pa_nil))))
      (pss_one (ps_ret (pe_callB (cr_sum rfl) (by rfl) (C.m_sum) (by decide +kernel) (pa_cons (pe_lc (own := [("lower", 3), ("upper", 4), ("rise", 5)]) (g := (gTup K 3 (gCons (gName 3) (gCons (gName 4) (gCons (gName 5) gNil))))) rfl sc_turns.nd (pi_list (pe_fn F_links_of (rmm hr) (by rfl) pass0 (pa_cons (pv 2) pa_nil))) (blkOk_by (own := [("lower", 3), ("upper", 4), ("rise", 5)]) (N := ["deed", "some", "layer", "lower", "upper", "rise"]) (sc := defScope s_turns) (by decide +kernel)) (fun _ _ _ _ _ => (pg_tup rfl (pgs_cons (pg_name (i := 3) sc_turns.nd rfl (Or.inl rfl) (Or.inr rfl)) (pgs_cons (pg_name (i := 4) sc_turns.nd rfl (Or.inl rfl) (Or.inr rfl)) (pgs_cons (pg_name (i := 5) sc_turns.nd rfl (Or.inl rfl) (Or.inr rfl)) pgs_nil))))) (fun _ _ _ _ _ => pts_one (pt_cmpR op_eq (pv 5) pe_int (nomark _))) (fun _ _ _ _ _ => (pe_op op_sub (pe_op op_sub (pe_ix (ix_listK K) (pv 1) (pv 4) (fun _ _ => rfl)) (pe_ix (ix_listK K) (pv 1) (pv 3) (fun _ _ => rfl))) pe_int))) pa_nil)))))), ?_⟩
    walk_at "go"
    refine ⟨v, d, ps, rfl, rep, W, sz, fun H1 l es c1 nl e1 r1 => ?_⟩
    have o := okLE_D sz
    have okr := okrow_D d
    have lE := lenD d
    revert o okr q r1 lE hb hx hk
    generalize layD d = E
    intro hb hx hk q r1 o okr lE
    have hl := SqL.of (K := K) e1
    have hb1 := c1.up _ _ hb (by simp)
    have ll := linksOf_len E
    walk_at "g"
    refine ⟨l, b, es, E, x, rfl, hl, r1, o, okr, by omega, hb1, hx, hk, fun H2 c2 => ?_⟩
    have hl2 := c2.sqL hl (by simp)
    have hb2 := c2.up _ _ hb1 (by simp)
    walk_at "g"
    refine ⟨l, es, E, rfl, hl2, r1.kt c2.kt, o, okr, fun H3 l3 us c3 n3 e3 r3 => ?_⟩
    have h3 := SqL.of (K := K) e3
    have hb3 := c3.up _ _ hb2 (by simp)
    have sb3 := SqL.of (K := K) hb3
    have lus : us.length = (linksOf E).length := by rw [r3.len, List.length_map]
    walk_at "g"
    refine ⟨⟨_, h3⟩, fun D nD => ?_⟩
    refine lc_it (walk_list (xs := us)) (fun i H' => Ch K [] H3 H' ∧ H' D = some (.lst (iv (tnl x ((linksOf E).take i))))) ⟨Ch.new nD, by rw [upd_same, List.take_zero]; rfl⟩ (fun i H' _ p => p.1.sqL h3 (by simp)) ?_ ?_
    · rintro i y _ H4 hi ⟨c4, d4⟩ ⟨rfl, hy⟩
      obtain ⟨k, hk', rl⟩ := reps_map r3 hy
      obtain ⟨la, rfl, hla⟩ := lnk_at (rl.kt c4.kt)
      have hb4 := c4.sqL sb3 (by simp)
      have ol := okln_of o k (List.mem_of_getElem? hk')
      have g1 := atI_nat (hv_at (h := x) (show k.lo < E.length by omega))
      have g2 := atI_nat (hv_at (h := x) (show k.up < E.length by omega))
      have sn := tnl_snoc (x := x) hk'
      have hz : (iv (tnl x ((linksOf E).take i))).length < sizeLine := by
        have := tnl_len x ((linksOf E).take i)
        rw [List.length_take] at this
        rw [iv_len, sizeLine_eq]
        omega
      refine g_gtup hla rfl ?_
      walk_at "g"
      refine ⟨rfl, ?_⟩
      walk_at "g"
      by_cases e : k.ri = 1
      · rw [if_pos (by simp [e])]
        walk_at "g"
        refine ⟨_, d4, hz, Ch.wrN c4 nD d4 rfl, ?_⟩
        rw [upd_same, sn, if_pos e]
        simp [iv]
      · rw [if_neg (by simp [e])]
        refine ⟨c4, ?_⟩
        rw [d4, sn, if_neg e, List.append_nil]
    · rintro H4 ⟨c4, d4⟩
      rw [lus, List.take_length] at d4
      walk_at "g"
      refine ⟨D, tnl x (linksOf E), rfl, SqL.of d4, ?_⟩
      exact q H4 ((c1.trans c2).trans (c3.trans c4))
end
end K3
end

section
set_option maxRecDepth 100000
set_option maxHeartbeats 1000000
open Bq L2
/-- one step of a reading; what is left are side goals and places to think -/
local macro_rules | `(tactic| walk_at "g1") => `(tactic| first
  | with_reducible refine' g_seq ?_ | with_reducible refine' g_asg ?_ | with_reducible refine' g_drop ?_ | with_reducible refine' g_ret ?_ | with_reducible refine' g_ifS ?_ | with_reducible refine' g_asgG ?_
  | ((with_reducible refine' g_var ?hv ?_); (case hv => rfl))
  | with_reducible refine' g_c ?_ | with_reducible refine' g_op ?_ | with_reducible refine' g_un ?_ | with_reducible refine' g_I0 ?_ | with_reducible refine' g_U ?_
  | with_reducible refine' g_test ?_ | with_reducible refine' g_tB ?_ | with_reducible refine Exists.intro _ (And.intro rfl ?_) 
  | ((with_reducible refine' g_andP ?ha ?hb ?_); (case ha => intro R q; walk_at "g"; exact q); (case hb => intro R q; walk_at "g"; exact q))
  | ((with_reducible refine' g_orP ?ha ?hb ?_); (case ha => intro R q; walk_at "g"; exact q); (case hb => intro R q; walk_at "g"; exact q))
  | with_reducible refine' g_and ?_ | with_reducible refine' g_or ?_ | with_reducible refine' g_not ?_
  | with_reducible refine' g_andV ?_ | with_reducible refine' g_orV ?_ | with_reducible refine' g_notV ?_ | with_reducible refine' g_if ?_ | with_reducible refine' g_nil ?_ | with_reducible refine' g_cons ?_
  | with_reducible refine' g_tup ?_ | with_reducible refine' g_lst ?_ | with_reducible refine' g_CB ?_ | with_reducible refine' g_Fn ?_ | with_reducible refine' g_next ?_ | with_reducible refine' g_retN ?_
  | with_reducible refine' g_name ?_ | with_reducible refine' g_sub ?_
  | ((with_reducible refine' g_ixL ?hs ?he ?_); (case hs => walk_at "lk"); (case he => walk_at "at"))
  | ((with_reducible refine' g_ixT ?hs ?he ?_); (case hs => walk_at "lk"); (case he => walk_at "at"))
  | ((with_reducible refine' g_setL ?hs ?he ?_); (case hs => walk_at "hp"); (case he => rfl))
  | ((with_reducible refine' g_app ?hs ?hz ?_); (case hs => walk_at "hp"); (case hz => walk_at "sz"))
  | ((with_reducible refine' ⟨_, _, rfl, Or.inl ?hs, ?_⟩); (case hs => walk_at "lk"))
  | ((with_reducible refine' ⟨_, _, rfl, Or.inr ?hs, ?_⟩); (case hs => walk_at "lk"))
  | with_reducible refine' g_BM ?_ | with_reducible refine' g_BM0 ?_ | ((with_reducible refine' g_tyL ?hs ?_); (case hs => walk_at "lk"))
  | with_reducible refine' g_sl ?_ | with_reducible refine' g_noPart ?_ | with_reducible refine' g_part ?_
  | ((with_reducible refine' g_inT ?hs ?fx ?fs ?_); (case hs => walk_at "lk"); (case fx => rfl); (case fs => rfl))
  | with_reducible refine' g_pair ?_ | with_reducible refine' g_pair0 ?_ | with_reducible refine' g_disp ?_
  | with_reducible refine' g_for ?_ | with_reducible refine' g_tupC ?_ | with_reducible refine' g_lstC ?_ | ((with_reducible refine' g_lens ?_)) | with_reducible refine' g_dg ?_ | with_reducible refine' g_lc ?_ | with_reducible refine' g_rng1 ?_ | with_reducible refine' g_ilist ?_ | with_reducible refine' g_itup ?_
  | ((with_reducible refine' ⟨_, _, rfl, ?hd, ?_⟩); (case hd => walk_at "dg"))
  | ((with_reducible refine' g_eqNil ?hs ?hz ?_); (case hs => walk_at "lk"); (case hz => walk_at "lk"))
  | ((with_reducible refine' g_neNil ?hs ?hz ?_); (case hs => walk_at "lk"); (case hz => walk_at "lk"))
  | with_reducible refine Or.inl ⟨_, rfl, ?_⟩
  | with_reducible refine Or.inr ⟨_, rfl, ?_⟩
  | ((with_reducible refine' g_eq ?hs ?_); (case hs => rfl))
  | ((with_reducible refine' g_ne ?hs ?_); (case hs => rfl))
  | ((with_reducible refine' g_I ?hc ?_); (case hc => walk_at "ar")))
/-- arithmetic's side conditions -/
local macro_rules | `(tactic| walk_at "ar") => `(tactic| (first
  | (show (0 : Int) < _; first | omega | decide) | (show (0 : Int) < _ ∧ _; constructor <;> omega) | (show ¬ (_ : Int) = _; omega) | (show (_ : Int) ≠ _ ∧ _; constructor <;> omega)
  | (show (-(2 ^ 64) < _ ∧ _) ∨ _; (first | (left; constructor <;> omega) | (right; constructor <;> omega))) | (show (0 : Int) ≤ _ ∧ _ ∧ _; refine ⟨by omega, by omega, by decide⟩)))
/-- what stands at an index -/
local macro_rules | `(tactic| walk_at "at") => `(tactic| first | rfl | assumption)
/-- what stands at an address -/
local macro_rules | `(tactic| walk_at "hp") => `(tactic| first | assumption | exact upd_same | ((refine' Eq.trans (upd_ne ?hn) ?hm); (case hm => walk_at "hp"); (case hn => walk_at "ne")))
/-- two places are two -/
local macro_rules | `(tactic| walk_at "ne") => `(tactic| first
  | assumption | exact Ne.symm (by assumption)
  | ((refine' ne_of_none ?ha ?hb); (case hb => assumption); (case ha => walk_at "hp")) | ((refine' Ne.symm (ne_of_none ?ha ?hb)); (case hb => assumption); (case ha => walk_at "hp")))
/-- what a dict tells -/
local macro_rules | `(tactic| walk_at "dg") => `(tactic| first | assumption)
/-- a length -/
local macro_rules | `(tactic| walk_at "sz") => `(tactic| first | (show _ ≤ sizeLine; decide) | (show _ < sizeLine; decide) | assumption | exact szlt (by simp) | exact szle (by simp))
/-- a list or tuple that stands -/
local macro_rules | `(tactic| walk_at "lk") => `(tactic| first | assumption | exact SqL.of (by assumption) | exact SqT.of (by assumption) | exact SqL.of upd_same | exact SqT.of upd_same | (refine' FzL.sq ?hm; (case hm => walk_at "fz")))
/-- a list that nobody writes -/
local macro_rules | `(tactic| walk_at "fz") => `(tactic| first | assumption | ((refine' FzL.uw ?hm ?hx); (case hx => walk_at "hp"); (case hm => walk_at "fz")) | ((refine' FzL.nw ?hm ?hx); (case hx => assumption); (case hm => walk_at "fz")))
/-- as far as it goes by itself -/
local macro_rules | `(tactic| walk_at "g") => `(tactic| repeat walk_at "g1")
/-- the body's reading, its places in short -/
local macro_rules | `(tactic| walk_at "go") => `(tactic| ((try dsimp only [cxOf, Cx.nox, Cx.wish]); walk_at "g"))
namespace K3
open PySem PySem.Spec PyProof.Rows L2 Bq
section
variable {P : Program} {w : World} {K : PySem.W.Frag} {mg : Str → Option Value} {base : Heap}
/-- further steps: dicts written, tuples taken apart -/
local macro_rules | `(tactic| walk_at "g1") => `(tactic| first
  | with_reducible refine' g_sdput ?_
  | ((with_reducible refine' g_gtup ?hs ?hl ?_); (case hs => walk_at "lk"); (case hl => rfl))
  | with_reducible refine' g_gcons ?_
  | with_reducible refine' g_gnil ?_
  | with_reducible refine' And.intro (Eq.refl V.non) ?_
  | with_reducible refine' g_isN ?_
  | ((with_reducible refine' g_chainR ?ha ?hb ?hc ?_); (case ha => intro R q; walk_at "g"; exact q); (case hb => intro R q; walk_at "g"; exact q); (case hc => intro R q; walk_at "g"; exact q))
  | with_reducible refine' g_notN ?_)
/-- what the law's dict tells -/
local macro_rules | `(tactic| walk_at "dg") => `(tactic| first
  | assumption
  | exact LH.gfuns (by assumption)
  | exact LH.gsaid (by assumption)
  | exact LH.gcells (by assumption)
  | exact LH.gfuel (by assumption)
  | exact LH.gend (by assumption)
  | exact LH.gcalls (by assumption)
  | exact LH.gnames (by assumption)
  | exact LH.gwaits (by assumption)
  | exact LH.gworth (by assumption)
  | exact LH.glook (by assumption))
/-- a test that fails, that holds, by itself -/
local macro_rules | `(tactic| walk_at "no") => `(tactic| ((refine tkF rfl ?_); walk_at "g"))
local macro_rules | `(tactic| walk_at "yes") => `(tactic| ((refine tkT rfl ?_); walk_at "g"))
local macro_rules | `(tactic| walk_at "g1") => `(tactic| first
  | with_reducible refine' g_catS ?_
  | with_reducible refine' g_mulS ?_
  | with_reducible refine' g_rev ?_)
/-- numbers in lists, more -/
local macro_rules | `(tactic| walk_at "g1") => `(tactic| first
  | with_reducible refine' g_augS ?_
  | with_reducible refine' g_ipI ?_
  | with_reducible refine' g_revL ?_
  | ((with_reducible refine' g_getL ?hs ?he ?_); (case hs => walk_at "lk"); (case he => walk_at "at"))
  | with_reducible refine' g_enum ?_)
open Fl
/-! ### the law's tree -/
inductive TreeR (K : PySem.W.Frag) (H : Hp) (N : List Addr) : List V → List LE → Prop where
  | nil : TreeR K H N [] []
  | cons {a : Addr} {rv : V} {ka : Addr} {es : List V} {e : LE} {E : List LE} (h1 : SqT K H a [rv, .ref ka]) (h2 : Rep K H rv e.row) (h3 : H ka = some (.lst (niv e.kids))) (h4 : ka ∉ N) (r : TreeR K H N es E) : TreeR K H N (.ref a :: es) (e :: E)
theorem TreeR.len {H : Hp} {N : List Addr} {es : List V} {E : List LE} (h : TreeR K H N es E) : es.length = E.length := by
  induction h with
  | nil => rfl
  | cons _ _ _ _ _ ih => simp [ih]
theorem TreeR.ch {H H' : Hp} {S N : List Addr} {es : List V} {E : List LE} (h : TreeR K H N es E) (c : Ch K S H H') (s : ∀ x ∈ S, x ∈ N) : TreeR K H' N es E := by
  induction h with
  | nil => exact .nil
  | cons h1 h2 h3 h4 _ ih => exact .cons (c.sqT h1) (h2.kt c.kt) (c.up _ _ h3 fun z => h4 (s _ z)) h4 ih
theorem TreeR.less {H : Hp} {N M : List Addr} {es : List V} {E : List LE} (h : TreeR K H N es E) (s : ∀ x ∈ M, x ∈ N) : TreeR K H M es E := by
  induction h with
  | nil => exact .nil
  | cons h1 h2 h3 h4 _ ih => exact .cons h1 h2 h3 (fun z => h4 (s _ z)) ih
theorem TreeR.more {H : Hp} {N : List Addr} {es : List V} {E : List LE} {x : Addr} (h : TreeR K H N es E) (s : ∀ ks, H x ≠ some (.lst (niv ks))) : TreeR K H (x :: N) es E := by
  induction h with
  | nil => exact .nil
  | cons h1 h2 h3 h4 _ ih =>
    refine .cons h1 h2 h3 (fun z => ?_) ih
    rcases List.mem_cons.mp z with z | z
    · exact s _ (z ▸ h3)
    · exact h4 z
theorem TreeR.snoc {H : Hp} {N : List Addr} {es : List V} {E : List LE} {a : Addr} {rv : V} {ka : Addr} {e : LE} (h : TreeR K H N es E) (h1 : SqT K H a [rv, .ref ka]) (h2 : Rep K H rv e.row) (h3 : H ka = some (.lst (niv e.kids))) (h4 : ka ∉ N) : TreeR K H N (es ++ [.ref a]) (E ++ [e]) := by
  induction h with
  | nil => exact .cons h1 h2 h3 h4 .nil
  | cons g1 g2 g3 g4 _ ih => exact .cons g1 g2 g3 g4 ih
theorem TreeR.at {H : Hp} {N : List Addr} {es : List V} {E : List LE} {i : Nat} {v : V} (h : TreeR K H N es E) (hi : es[i]? = some v) : ∃ e a rv ka, E[i]? = some e ∧ v = .ref a ∧ SqT K H a [rv, .ref ka] ∧ Rep K H rv e.row ∧ H ka = some (.lst (niv e.kids)) ∧ ka ∉ N := by
  induction h generalizing i with
  | nil => simp at hi
  | cons g1 g2 g3 g4 _ ih =>
    cases i with
    | zero =>
      simp at hi
      subst hi
      exact ⟨_, _, _, _, rfl, rfl, g1, g2, g3, g4⟩
    | succ i =>
      obtain ⟨e, a, rv, ka, q⟩ := ih (i := i) (by simpa using hi)
      exact ⟨e, a, rv, ka, by simpa using q.1, q.2⟩
def rw1 (p : Pt) : T := match p with
  | .num n => .tup [.str "num", .int n]
  | .name i => .tup [.str "name", .int i]
  | _ => .tup [.str (wdT (.p p))]
theorem inNN (p : Pt) : inV (V.str (wdT (.p p))) [V.str "num", V.str "name"] = (match p with | .num _ => true | .name _ => true | _ => false) := by
  cases p with
  | bin op a b => cases op <;> rfl
  | _ => rfl
theorem cutT1 (x : T) (r : List T) : cutT (x :: r) none (some 1) = [x] := by
  have e1 : HT.sIx (x :: r).length (x :: r).length (some 1) = 1 := by
    have := HT.sIx_nat (x :: r).length (x :: r).length 1
    rw [show ((1 : Nat) : Int) = 1 from rfl] at this
    rw [this]
    simp
  have e2 : HT.sIx (x :: r).length 0 none = 0 := rfl
  unfold cutT
  rw [e1, e2]
  rfl
theorem layP_eq (p : Pt) (b : Nat) : layP p b = layPs (innerP p) b ++ [⟨rowT (.p p), kidsOf (innerP p) b⟩] := (layT_p p b).symm
def spLLay (K : PySem.W.Frag) (n : Nat) : Sp := fun vs H Q _ => ∃ v p fl es E N, vs = [v, .ref fl] ∧ Rep K H v (encP p) ∧ dpP p ≤ n ∧ H fl = some (.lst es) ∧ (∀ x ∈ N, H x ≠ none) ∧ TreeR K H (fl :: N) es E ∧ E.length + szP p ≤ 1000 ∧
  ∀ H' es', Ch K [fl] H H' → H' fl = some (.lst es') → TreeR K H' (fl :: N) es' (E ++ layP p E.length) → Q (.int ((E.length + szP p - 1 : Nat) : Int)) H'
theorem llay_step (C : Cn w K mg base) (k n : Nat) (hk : 2 ≤ k) {sp : Sp} (F_law_lay : Fn P w K mg base CX0 k "_law_lay" ["_law_part", "_law_found"] sp) (hsp : ∀ m, n = m + 1 → ∀ vs H Q E, spLLay K m vs H Q E → sp vs H Q E) : Fn P w K mg base CX0 (k + 1) "_law_lay" ["_law_part", "_law_found"] (spLLay K n) := C.f_law_lay fun fd F => by
  have F_law_inner : Fn P w K mg base CX0 2 "_law_inner" ["_law_thing"] (spInner K) := fn_inner C
  refine F.ok (CX := CX0) sc_law_lay (fun vs H Q E h => ?_) (fun cdv A outer s H vs Q E hr h => ?_)
  · obtain ⟨v, p, fl, es, E, N, rfl, _⟩ := h
    rfl
  · obtain ⟨v, p, fl, es, E, N, rfl, rep, dp, efl, aN, re, sz, q⟩ := h
    refine ⟨_, PSs.nox (pss_cons (ps_setLc (i := 2) (own := [("_law_one", 4)]) (g := gName 4) (tt := tYes) rfl sc_law_lay.nd rfl rfl (sw_true rfl rfl rfl (by decide +kernel)) (pi_list (pe_fn F_law_inner (rmm hr) (by rfl) pass0 (pa_cons (pv 0) pa_nil))) (blkOk_by (own := [("_law_one", 4)]) (N := ["_law_part", "_law_found", "_law_kids", "_law_row", "_law_one"]) (sc := defScope s_law_lay) (by decide +kernel)) (fun _ _ _ _ _ => pg_name (i := 4) sc_law_lay.nd rfl (Or.inl rfl)) (fun _ _ _ _ _ => pts_nil) (fun _ _ _ _ _ => (pe_fn F_law_lay (rmm hr) (by rfl) pass0 (pa_cons (pv 4) (pa_cons (pv 1) pa_nil)))))
      (pss_cons (ps_set (i := 3) sc_law_lay.nd rfl (Or.inl rfl) (pe_slice sl_tupR (pv 0) po_none (po_some pe_int)))
      (Evl.pss_cut (ps_if (pt_cmpR op_in_seq (pe_ix ix_tup (pv 0) pe_int (fun _ _ => rfl)) (pe_tupC (pa_cons pe_str (pa_cons pe_str pa_nil))) (by rfl)) (pss_one (ps_set (i := 3) sc_law_lay.nd rfl (Or.inl rfl) (pv 0))) pss_nil)
      (Evl.pss_cut (ps_if (pt_cmpR op_eq (pe_ix ix_tup (pv 0) pe_int (fun _ _ => rfl)) pe_str (nomark _)) (pss_one (ps_set (i := 3) sc_law_lay.nd rfl (Or.inl rfl) (pe_tupC (pa_cons pe_str (pa_cons (pe_ix ix_tup (pv 0) pe_int (fun _ _ => rfl)) (pa_cons (pe_callB call_len_seq (by rfl) (C.m_len) PySem.boot_len (pa_cons (pe_ix ix_tup (pv 0) pe_int (fun _ _ => rfl)) pa_nil)) pa_nil)))))) pss_nil)
      (pss_cons (ps_expr (pe_bm PySem.F.plainAttrs_list PySem.F.slot_list_append PySem.F.type_list_append mt_append (pv 1) (pa_cons (pe_tupC (pa_cons (pv 3) (pa_cons (pv 2) pa_nil))) pa_nil)))
      (pss_one (ps_ret (pe_op op_sub (pe_callB call_len_seq (by rfl) (C.m_len) PySem.boot_len (pa_cons (pv 1) pa_nil)) pe_int)))))))), ?_⟩
    have le : es.length = E.length := re.len
    walk_at "go"
    refine ⟨v, .p p, rfl, rep, fun H1 l us c1 n1 e1 r1 => ?_⟩
    have lu : us.length = (innerP p).length := by rw [r1.len]; exact encPs_len _
    have hl := SqL.of (K := K) e1
    have nlf : l ≠ fl := fun e => by rw [e, efl] at n1; cases n1
    walk_at "g"
    refine ⟨⟨_, hl⟩, fun D nD => ?_⟩
    have nDl : D ≠ l := fun e => by rw [e, e1] at nD; cases nD
    have efl1 := c1.up _ _ efl (by simp)
    have nDf : D ≠ fl := fun e => by rw [e, efl1] at nD; cases nD
    refine lc_it (walk_list (xs := us)) (fun i H' => ∃ es', Ch K [fl] H1 H' ∧ H' fl = some (.lst es') ∧ TreeR K H' (fl :: D :: N) es' (E ++ layPs ((innerP p).take i) E.length) ∧ H' D = some (.lst (niv (kidsOf ((innerP p).take i) E.length)))) ⟨es, (Ch.new (S := []) nD).mono (by simp), (Ch.new (K := K) (S := []) nD).up _ _ efl1 (by simp), by rw [List.take_zero]; simpa [layPs] using (((re.ch c1 (by simp)).more (x := D) (fun ks => by rw [nD]; simp)).less (by simp; intro x h; exact .inr (.inr h))).ch (Ch.new (S := []) nD) (by simp), by rw [upd_same]; rfl⟩ (fun i H' _ ⟨_, c, _⟩ => c.sqL hl (by simpa using nlf)) ?_ ?_
    · rintro i x _ H3 hi ⟨es3, c3, e3, t3, d3⟩ ⟨rfl, hx⟩
      obtain ⟨t1, ht1, rt1⟩ := r1.get hx
      obtain ⟨p', hp, rfl⟩ := encPs_at ht1
      have hp : (innerP p)[i]? = some p' := hp
      have dpp := dp_inner (t := .p p) (List.mem_of_getElem? hp)
      have ss := szPs_split hp
      have kl := kidsOf_len ((innerP p).take i) E.length
      have hil : i < (innerP p).length := by omega
      have len3 : (E ++ layPs ((innerP p).take i) E.length).length = E.length + szPs ((innerP p).take i) := by rw [List.length_append, layPs_len]
      have szp : szPs (innerP p) + 1 = szP p := by
        have := layT_len (.p p) 0
        rw [layT_p, layP_len] at this
        exact this.symm
      have tl : ((innerP p).take i).length ≤ szPs ((innerP p).take i) := by
        have : ∀ ps : List Pt, ps.length ≤ szPs ps := by
          intro ps
          induction ps with
          | nil => simp [szPs]
          | cons a r ih => have := szP_pos a; simp only [List.length_cons, szPs]; omega
        exact this _
      walk_at "g"
      refine ⟨rfl, ?_⟩
      simp only [tYes, ↓reduceIte]
      walk_at "g"
      have aDN : ∀ x ∈ D :: N, H3 x ≠ none := fun x hx => by
        rcases List.mem_cons.mp hx with hx | hx
        · rw [hx, d3]; simp
        · cases e : H x with
          | none => exact (aN x hx e).elim
          | some o =>
            by_cases z : x = fl
            · rw [z, e3]; simp
            · rw [(c1.mono (by simp : ∀ a ∈ [], a ∈ [fl])).trans c3 |>.up _ _ e (by simpa using z)]; simp
      refine hsp (n - 1) (by simp only [dpTh] at dpp; omega) _ _ _ _ ⟨x, p', fl, es3, E ++ layPs ((innerP p).take i) E.length, D :: N, rfl, rt1.kt c3.kt, by simp only [dpTh] at dpp; omega, e3, aDN, t3, by rw [len3]; omega, fun H4 es4 c4 e4 t4 => ?_⟩
      have d4 := c4.up _ _ d3 (by simpa using nDf)
      have hz : (niv (kidsOf ((innerP p).take i) E.length)).length < sizeLine := by rw [niv_len, kl, sizeLine_eq]; omega
      have c5 : Ch K [D] H4 (upd H4 D (.lst (niv (kidsOf ((innerP p).take i) E.length) ++ [V.int ((((E ++ layPs ((innerP p).take i) E.length).length + szP p' - 1 : Nat)) : Int)]))) := Ch.wrL d4 (by simp)
      refine ⟨_, d4, hz, es4, Ch.wrN (c3.trans c4) nD d4 rfl, c5.up _ _ e4 (by simpa using nDf.symm), ?_, ?_⟩
      · rw [take_snoc hp, layPs_snoc, ← List.append_assoc]
        rw [len3] at t4
        exact t4.ch c5 (by simp)
      · rw [upd_same, take_snoc hp, kidsOf_snoc, niv_app, len3]
        rfl
    · rintro H3 ⟨es3, c3, e3, t3, d3⟩
      rw [show us.length = (innerP p).length from lu, List.take_length] at t3 d3
      obtain ⟨a, ws, rfl, hS, rs⟩ := thing1 (t := .p p) (rep.kt (c1.kt.trans c3.kt))
      have h0 : atI (V.str (wdT (.p p)) :: ws) 0 = some (V.str (wdT (.p p))) := atI_nat (j := 0) rfl
      have c13 : Ch K [fl] H H3 := (c1.mono (by simp)).trans c3
      walk_at "g"
      have rep3 := rep.kt c13.kt
      refine ⟨.str (wdT (.p p)) :: restT (.p p), by rw [← encT_eq]; exact rep3, fun rv H4 c4 r4 => ?_⟩
      rw [cutT1] at r4
      refine ⟨fun σ' H' => ∃ rv, σ' = [some (.ref a), some (.ref fl), some (.ref D), some rv, none] ∧ Ch K [] H3 H' ∧ Rep K H' rv (rw1 p), ?_, ?_⟩
      · have hS4 := c4.sqT hS
        walk_at "g"
        refine ⟨szle (by simp), fun l1 H5 n5 e5 c5 => ?_⟩
        walk_at "g"
        rw [inNN]
        cases p with
        | num i =>
          walk_at "yes"
          exact ⟨c4.trans c5, by have := rep3.kt (c4.trans c5).kt; simpa only [encP, rw1] using this⟩
        | name i =>
          walk_at "yes"
          exact ⟨c4.trans c5, by have := rep3.kt (c4.trans c5).kt; simpa only [encP, rw1] using this⟩
        | _ =>
          walk_at "no"
          exact ⟨c4.trans c5, r4.kt c5.kt⟩
      rintro _ H5 ⟨rv, rfl, c5, r5⟩
      refine ⟨fun σ' H' => ∃ rv, σ' = [some (.ref a), some (.ref fl), some (.ref D), some rv, none] ∧ Ch K [] H3 H' ∧ Rep K H' rv (rowT (.p p)), ?_, ?_⟩
      · have hS5 := c5.sqT hS
        walk_at "g"
        rw [row2]
        cases p with
        | call f ps =>
          have rs5 := rs.kt c5.kt
          obtain ⟨v1, vs2, rfl, q1, rs2⟩ := rs5.consI
          obtain ⟨v2, vs3, rfl, q2, _⟩ := rs2.consI
          obtain rfl := q1.intI
          obtain ⟨b, ws, rfl, hb, rw_⟩ := q2.tupI
          have lw : ws.length = ps.length := by rw [rw_.len]; exact encPs_len _
          have g1 : atI (V.str (wdT (.p (.call f ps))) :: V.int f :: V.ref b :: vs3) 1 = some (V.int f) := atI_nat (j := 1) rfl
          have g2 : atI (V.str (wdT (.p (.call f ps))) :: V.int f :: V.ref b :: vs3) 2 = some (V.ref b) := atI_nat (j := 2) rfl
          walk_at "yes"
          rw [lw]
          refine ⟨szle (by simp), fun pp H6 n6 e6 c6 => ?_⟩
          exact ⟨_, rfl, c5.trans c6, .tup (SqT.of e6) (.cons (.str _) (.cons (.int _) (.cons (.int _) .nil)))⟩
        | _ =>
          walk_at "no"
          exact ⟨c5, r5⟩
      rintro _ H6 ⟨rv, rfl, c6, r6⟩
      have e6 := c6.up _ _ e3 (by simp)
      have d6 := c6.up _ _ d3 (by simp)
      have t6 := t3.ch c6 (by simp)
      walk_at "g"
      refine ⟨szle (by simp), fun pp H7 n7 e7 c7 => ?_⟩
      have f7 := c7.up _ _ e6 (by simp)
      have d7 := c7.up _ _ d6 (by simp)
      have t7 := t6.ch c7 (by simp)
      have szp : szPs (innerP p) + 1 = szP p := by
        have := layT_len (.p p) 0
        rw [layT_p, layP_len] at this
        exact this.symm
      have l3 : es3.length = E.length + szPs (innerP p) := by rw [t3.len, List.length_append, layPs_len]
      have hz : es3.length < sizeLine := by rw [l3, sizeLine_eq]; omega
      walk_at "g"
      have c8 : Ch K [fl] H7 (upd H7 fl (.lst (es3 ++ [.ref pp]))) := Ch.wrL f7 (by simp)
      have e8 : (upd H7 fl (.lst (es3 ++ [.ref pp]))) fl = some (.lst (es3 ++ [.ref pp])) := upd_same
      generalize upd H7 fl (.lst (es3 ++ [.ref pp])) = H8 at c8 e8 ⊢
      have f8 := SqL.of (K := K) e8
      walk_at "g"
      rw [List.length_append, l3, List.length_singleton, show ((E.length + szPs (innerP p) + 1 : Nat) : Int) - 1 = ((E.length + szP p - 1 : Nat) : Int) by omega]
      have nDN : D ∉ fl :: N := fun z => by
        rcases List.mem_cons.mp z with z | z
        · exact nDf z
        · cases e : H D with
          | none => exact aN D z e
          | some o => rw [c1.up _ _ e (by simp)] at nD; cases nD
      refine q H8 _ ((c13.trans ((c6.trans c7).mono (by simp))).trans c8) e8 ?_
      rw [layP_eq, ← List.append_assoc]
      exact ((t7.ch c8 (by simp)).less (by simp; intro x h; exact .inr (.inr h))).snoc (c8.sqT (SqT.of e7)) ((r6.kt c7.kt).kt c8.kt) (c8.up _ _ d7 (by simpa using nDf)) nDN
end
end K3
end

section
set_option maxRecDepth 100000
set_option maxHeartbeats 1000000
open Bq L2
/-- one step of a reading; what is left are side goals and places to think -/
local macro_rules | `(tactic| walk_at "g1") => `(tactic| first
  | with_reducible refine' g_seq ?_ | with_reducible refine' g_asg ?_ | with_reducible refine' g_drop ?_ | with_reducible refine' g_ret ?_ | with_reducible refine' g_ifS ?_ | with_reducible refine' g_asgG ?_
  | ((with_reducible refine' g_var ?hv ?_); (case hv => rfl))
  | with_reducible refine' g_c ?_ | with_reducible refine' g_op ?_ | with_reducible refine' g_un ?_ | with_reducible refine' g_I0 ?_ | with_reducible refine' g_U ?_
  | with_reducible refine' g_test ?_ | with_reducible refine' g_tB ?_ | with_reducible refine Exists.intro _ (And.intro rfl ?_) 
  | ((with_reducible refine' g_andP ?ha ?hb ?_); (case ha => intro R q; walk_at "g"; exact q); (case hb => intro R q; walk_at "g"; exact q))
  | ((with_reducible refine' g_orP ?ha ?hb ?_); (case ha => intro R q; walk_at "g"; exact q); (case hb => intro R q; walk_at "g"; exact q))
  | with_reducible refine' g_and ?_ | with_reducible refine' g_or ?_ | with_reducible refine' g_not ?_
  | with_reducible refine' g_andV ?_ | with_reducible refine' g_orV ?_ | with_reducible refine' g_notV ?_ | with_reducible refine' g_if ?_ | with_reducible refine' g_nil ?_ | with_reducible refine' g_cons ?_
  | with_reducible refine' g_tup ?_ | with_reducible refine' g_lst ?_ | with_reducible refine' g_CB ?_ | with_reducible refine' g_Fn ?_ | with_reducible refine' g_next ?_ | with_reducible refine' g_retN ?_
  | with_reducible refine' g_name ?_ | with_reducible refine' g_sub ?_
  | ((with_reducible refine' g_ixL ?hs ?he ?_); (case hs => walk_at "lk"); (case he => walk_at "at"))
  | ((with_reducible refine' g_ixT ?hs ?he ?_); (case hs => walk_at "lk"); (case he => walk_at "at"))
  | ((with_reducible refine' g_setL ?hs ?he ?_); (case hs => walk_at "hp"); (case he => rfl))
  | ((with_reducible refine' g_app ?hs ?hz ?_); (case hs => walk_at "hp"); (case hz => walk_at "sz"))
  | ((with_reducible refine' ⟨_, _, rfl, Or.inl ?hs, ?_⟩); (case hs => walk_at "lk"))
  | ((with_reducible refine' ⟨_, _, rfl, Or.inr ?hs, ?_⟩); (case hs => walk_at "lk"))
  | with_reducible refine' g_BM ?_ | with_reducible refine' g_BM0 ?_ | ((with_reducible refine' g_tyL ?hs ?_); (case hs => walk_at "lk"))
  | with_reducible refine' g_sl ?_ | with_reducible refine' g_noPart ?_ | with_reducible refine' g_part ?_
  | ((with_reducible refine' g_inT ?hs ?fx ?fs ?_); (case hs => walk_at "lk"); (case fx => rfl); (case fs => rfl))
  | with_reducible refine' g_pair ?_ | with_reducible refine' g_pair0 ?_ | with_reducible refine' g_disp ?_
  | with_reducible refine' g_for ?_ | with_reducible refine' g_tupC ?_ | with_reducible refine' g_lstC ?_ | ((with_reducible refine' g_lens ?_)) | with_reducible refine' g_dg ?_ | with_reducible refine' g_lc ?_ | with_reducible refine' g_rng1 ?_ | with_reducible refine' g_ilist ?_ | with_reducible refine' g_itup ?_
  | ((with_reducible refine' ⟨_, _, rfl, ?hd, ?_⟩); (case hd => walk_at "dg"))
  | ((with_reducible refine' g_eqNil ?hs ?hz ?_); (case hs => walk_at "lk"); (case hz => walk_at "lk"))
  | ((with_reducible refine' g_neNil ?hs ?hz ?_); (case hs => walk_at "lk"); (case hz => walk_at "lk"))
  | with_reducible refine Or.inl ⟨_, rfl, ?_⟩
  | with_reducible refine Or.inr ⟨_, rfl, ?_⟩
  | ((with_reducible refine' g_eq ?hs ?_); (case hs => rfl))
  | ((with_reducible refine' g_ne ?hs ?_); (case hs => rfl))
  | ((with_reducible refine' g_I ?hc ?_); (case hc => walk_at "ar")))
/-- arithmetic's side conditions -/
local macro_rules | `(tactic| walk_at "ar") => `(tactic| (first
  | (show (0 : Int) < _; first | omega | decide) | (show (0 : Int) < _ ∧ _; constructor <;> omega) | (show ¬ (_ : Int) = _; omega) | (show (_ : Int) ≠ _ ∧ _; constructor <;> omega)
  | (show (-(2 ^ 64) < _ ∧ _) ∨ _; (first | (left; constructor <;> omega) | (right; constructor <;> omega))) | (show (0 : Int) ≤ _ ∧ _ ∧ _; refine ⟨by omega, by omega, by decide⟩)))
/-- what stands at an index -/
local macro_rules | `(tactic| walk_at "at") => `(tactic| first | rfl | assumption)
/-- what stands at an address -/
local macro_rules | `(tactic| walk_at "hp") => `(tactic| first | assumption | exact upd_same | ((refine' Eq.trans (upd_ne ?hn) ?hm); (case hm => walk_at "hp"); (case hn => walk_at "ne")))
/-- two places are two -/
local macro_rules | `(tactic| walk_at "ne") => `(tactic| first
  | assumption | exact Ne.symm (by assumption)
  | ((refine' ne_of_none ?ha ?hb); (case hb => assumption); (case ha => walk_at "hp")) | ((refine' Ne.symm (ne_of_none ?ha ?hb)); (case hb => assumption); (case ha => walk_at "hp")))
/-- what a dict tells -/
local macro_rules | `(tactic| walk_at "dg") => `(tactic| first | assumption)
/-- a length -/
local macro_rules | `(tactic| walk_at "sz") => `(tactic| first | (show _ ≤ sizeLine; decide) | (show _ < sizeLine; decide) | assumption | exact szlt (by simp) | exact szle (by simp))
/-- a list or tuple that stands -/
local macro_rules | `(tactic| walk_at "lk") => `(tactic| first | assumption | exact SqL.of (by assumption) | exact SqT.of (by assumption) | exact SqL.of upd_same | exact SqT.of upd_same | (refine' FzL.sq ?hm; (case hm => walk_at "fz")))
/-- a list that nobody writes -/
local macro_rules | `(tactic| walk_at "fz") => `(tactic| first | assumption | ((refine' FzL.uw ?hm ?hx); (case hx => walk_at "hp"); (case hm => walk_at "fz")) | ((refine' FzL.nw ?hm ?hx); (case hx => assumption); (case hm => walk_at "fz")))
/-- as far as it goes by itself -/
local macro_rules | `(tactic| walk_at "g") => `(tactic| repeat walk_at "g1")
/-- the body's reading, its places in short -/
local macro_rules | `(tactic| walk_at "go") => `(tactic| ((try dsimp only [cxOf, Cx.nox, Cx.wish]); walk_at "g"))
namespace K3
open PySem PySem.Spec PyProof.Rows L2 Bq
section
variable {P : Program} {w : World} {K : PySem.W.Frag} {mg : Str → Option Value} {base : Heap}
/-- further steps: dicts written, tuples taken apart -/
local macro_rules | `(tactic| walk_at "g1") => `(tactic| first
  | with_reducible refine' g_sdput ?_
  | ((with_reducible refine' g_gtup ?hs ?hl ?_); (case hs => walk_at "lk"); (case hl => rfl))
  | with_reducible refine' g_gcons ?_
  | with_reducible refine' g_gnil ?_
  | with_reducible refine' And.intro (Eq.refl V.non) ?_
  | with_reducible refine' g_isN ?_
  | ((with_reducible refine' g_chainR ?ha ?hb ?hc ?_); (case ha => intro R q; walk_at "g"; exact q); (case hb => intro R q; walk_at "g"; exact q); (case hc => intro R q; walk_at "g"; exact q))
  | with_reducible refine' g_notN ?_)
/-- what the law's dict tells -/
local macro_rules | `(tactic| walk_at "dg") => `(tactic| first
  | assumption
  | exact LH.gfuns (by assumption)
  | exact LH.gsaid (by assumption)
  | exact LH.gcells (by assumption)
  | exact LH.gfuel (by assumption)
  | exact LH.gend (by assumption)
  | exact LH.gcalls (by assumption)
  | exact LH.gnames (by assumption)
  | exact LH.gwaits (by assumption)
  | exact LH.gworth (by assumption)
  | exact LH.glook (by assumption))
/-- a test that fails, that holds, by itself -/
local macro_rules | `(tactic| walk_at "no") => `(tactic| ((refine tkF rfl ?_); walk_at "g"))
local macro_rules | `(tactic| walk_at "yes") => `(tactic| ((refine tkT rfl ?_); walk_at "g"))
local macro_rules | `(tactic| walk_at "g1") => `(tactic| first
  | with_reducible refine' g_catS ?_
  | with_reducible refine' g_mulS ?_
  | with_reducible refine' g_rev ?_)
/-- numbers in lists, more -/
local macro_rules | `(tactic| walk_at "g1") => `(tactic| first
  | with_reducible refine' g_augS ?_
  | with_reducible refine' g_ipI ?_
  | with_reducible refine' g_revL ?_
  | ((with_reducible refine' g_getL ?hs ?he ?_); (case hs => walk_at "lk"); (case he => walk_at "at"))
  | with_reducible refine' g_enum ?_)
open Fl
theorem fn_llay (C : Cn w K mg base) : ∀ n : Nat, Fn P w K mg base CX0 (n + 3) "_law_lay" ["_law_part", "_law_found"] (spLLay K n)
  | 0 => llay_step C 2 0 (by decide) (sp := fun _ _ _ _ => False) (C.f_law_lay fun fd F => ⟨fun _ _ _ _ h => h.elim, fun _ _ _ _ _ _ _ _ _ _ _ _ _ h => h.elim⟩) fun m h => by omega
  | n + 1 => llay_step C (n + 3) (n + 1) (by omega) (fn_llay C n) fun m e _ _ _ _ h => by
    have : m = n := by omega
    rw [← this]
    exact h
def spLTree (K : PySem.W.Frag) : Sp := fun vs H Q _ => ∃ v d N, vs = [v] ∧ Rep K H v (encDd d) ∧ szPs (innerD d) ≤ 40 ∧ (∀ x ∈ N, H x ≠ none) ∧ ∀ H' l es, Ch K [] H H' → H l = none → H' l = some (.lst es) → TreeR K H' N es (layD d) → Q (.ref l) H'
theorem fn_ltree (C : Cn w K mg base) : Fn P w K mg base CX0 44 "_law_tree" ["_law_deed"] (spLTree K) := C.f_law_tree fun fd F => by
  have F_law_inner : Fn P w K mg base CX0 2 "_law_inner" ["_law_thing"] (spInner K) := fn_inner C
  have F_law_lay : Fn P w K mg base CX0 43 "_law_lay" ["_law_part", "_law_found"] (spLLay K 40) := fn_llay C 40
  refine F.ok (CX := CX0) sc_law_tree (fun vs H Q E h => ?_) (fun cdv A outer s H vs Q E hr h => ?_)
  · obtain ⟨v, d, N, rfl, _⟩ := h
    rfl
  · obtain ⟨v, d, N, rfl, rep, sz, aN, q⟩ := h
    have hu := hu_of (rmm (j := 1) hr)
    refine ⟨_, PSs.nox (pss_cons (ps_set (i := 1) sc_law_tree.nd rfl (Or.inr rfl) (pe_lstC pa_nil))
      (pss_cons (ps_setLc (i := 2) (own := [("_law_one", 4)]) (g := gName 4) (tt := tYes) rfl sc_law_tree.nd rfl rfl (sw_true rfl rfl rfl (by decide +kernel)) (pi_list (pe_fn F_law_inner (rmm hr) (by rfl) pass0 (pa_cons (pv 0) pa_nil))) (blkOk_by (own := [("_law_one", 4)]) (N := ["_law_deed", "_law_found", "_law_kids", "_law_row", "_law_one"]) (sc := defScope s_law_tree) (by decide +kernel)) (fun _ _ _ _ _ => pg_name (i := 4) sc_law_tree.nd rfl (Or.inl rfl)) (fun _ _ _ _ _ => pts_nil) (fun _ _ _ _ _ => (pe_fn F_law_lay (rmm hr) (by rfl) pass0 (pa_cons (pv 4) (pa_cons (pv 1) pa_nil)))))
      (pss_cons (ps_set (i := 3) sc_law_tree.nd rfl (Or.inl rfl) (pe_dget2 hu (pe_disp (pps_cons pe_str (pe_tupC (pa_cons pe_str pa_nil)) (pps_cons pe_str (pe_tupC (pa_cons pe_str pa_nil)) (pps_cons pe_str (pe_tupC (pa_cons pe_str pa_nil)) (pps_cons pe_str (pe_slice sl_tupR (pv 0) po_none (po_some pe_int)) pps_nil)))) (by rfl) (by rfl) (fun z => by cases z) (by decide)) (pe_ix ix_tup (pv 0) pe_int (fun _ _ => rfl)) (pe_slice sl_tupR (pv 0) po_none (po_some pe_int)) ⟨by rfl, by rfl, by rfl, by rfl⟩))
      (pss_one (ps_ret (pe_op op_catL (pv 1) (pe_lstC (pa_cons (pe_tupC (pa_cons (pv 3) (pa_cons (pv 2) pa_nil))) pa_nil)))))))), ?_⟩
    walk_at "go"
    refine ⟨szle (by simp), fun fl H0 n0 e0 c0 => ?_⟩
    walk_at "g"
    refine ⟨v, .d d, rfl, rep.kt c0.kt, fun H1 l us c1 n1 e1 r1 => ?_⟩
    have lu : us.length = (innerD d).length := by rw [r1.len]; exact encPs_len _
    have hl := SqL.of (K := K) e1
    have efl1 := c1.up _ _ e0 (by simp)
    have nlf : l ≠ fl := fun e => by rw [e, e0] at n1; cases n1
    have c01 := c0.trans c1
    have dpps : dpPs (innerD d) ≤ szPs (innerD d) := dpPs_sz _
    walk_at "g"
    refine ⟨⟨_, hl⟩, fun D nD => ?_⟩
    have nDf : D ≠ fl := fun e => by rw [e, efl1] at nD; cases nD
    have nfN : fl ∉ N := fun z => aN _ z n0
    have nDN : D ∉ N := fun z => aN _ z (c01.free nD (by simp))
    refine lc_it (walk_list (xs := us)) (fun i H' => ∃ es', Ch K [fl] H1 H' ∧ H' fl = some (.lst es') ∧ TreeR K H' (fl :: D :: N) es' (layPs ((innerD d).take i) 0) ∧ H' D = some (.lst (niv (kidsOf ((innerD d).take i) 0)))) ⟨[], (Ch.new (S := []) nD).mono (by simp), (Ch.new (K := K) (S := []) nD).up _ _ efl1 (by simp), by rw [List.take_zero]; exact .nil, by rw [upd_same]; rfl⟩ (fun i H' _ ⟨_, c, _⟩ => c.sqL hl (by simpa using nlf)) ?_ ?_
    · rintro i x _ H3 hi ⟨es3, c3, e3, t3, d3⟩ ⟨rfl, hx⟩
      obtain ⟨t1, ht1, rt1⟩ := r1.get hx
      obtain ⟨p', hp, rfl⟩ := encPs_at ht1
      have hp : (innerD d)[i]? = some p' := hp
      have dpp := dp_inner (t := .d d) (List.mem_of_getElem? hp)
      have ss := szPs_split hp
      have kl := kidsOf_len ((innerD d).take i) 0
      have hil : i < (innerD d).length := by omega
      have tl : ((innerD d).take i).length ≤ szPs ((innerD d).take i) := by
        have : ∀ ps : List Pt, ps.length ≤ szPs ps := by
          intro ps
          induction ps with
          | nil => simp [szPs]
          | cons a r ih => have := szP_pos a; simp only [List.length_cons, szPs]; omega
        exact this _
      have aDN : ∀ x ∈ D :: N, H3 x ≠ none := fun x hx => by
        rcases List.mem_cons.mp hx with hx | hx
        · rw [hx, d3]; simp
        · cases e : H x with
          | none => exact (aN x hx e).elim
          | some o =>
            have z : x ≠ fl := fun z => nfN (z ▸ hx)
            rw [(c01.mono (by simp : ∀ a ∈ [], a ∈ [fl])).trans c3 |>.up _ _ e (by simpa using z)]; simp
      walk_at "g"
      refine ⟨rfl, ?_⟩
      simp only [tYes, ↓reduceIte]
      walk_at "g"
      refine ⟨x, p', fl, es3, layPs ((innerD d).take i) 0, D :: N, rfl, rt1.kt c3.kt, by simp only [dpTh] at dpp; omega, e3, aDN, t3, by rw [layPs_len]; omega, fun H4 es4 c4 e4 t4 => ?_⟩
      have d4 := c4.up _ _ d3 (by simpa using nDf)
      have hz : (niv (kidsOf ((innerD d).take i) 0)).length < sizeLine := by rw [niv_len, kl, sizeLine_eq]; omega
      have c5 : Ch K [D] H4 (upd H4 D (.lst (niv (kidsOf ((innerD d).take i) 0) ++ [V.int ((((layPs ((innerD d).take i) 0).length + szP p' - 1 : Nat)) : Int)]))) := Ch.wrL d4 (by simp)
      refine ⟨_, d4, hz, es4, Ch.wrN (c3.trans c4) nD d4 rfl, c5.up _ _ e4 (by simpa using nDf.symm), ?_, ?_⟩
      · rw [take_snoc hp, layPs_snoc, Nat.zero_add]
        rw [layPs_len] at t4
        exact t4.ch c5 (by simp)
      · rw [upd_same, take_snoc hp, kidsOf_snoc, niv_app, layPs_len, Nat.zero_add]
        rfl
    · rintro H3 ⟨es3, c3, e3, t3, d3⟩
      rw [show us.length = (innerD d).length from lu, List.take_length] at t3 d3
      obtain ⟨a, ws, rfl, hS, rs⟩ := thing1 (t := .d d) (rep.kt (c01.kt.trans c3.kt))
      have h0 : atI (V.str (wdT (.d d)) :: ws) 0 = some (V.str (wdT (.d d))) := atI_nat (j := 0) rfl
      have c03 : Ch K [fl] H0 H3 := (c1.mono (by simp)).trans c3
      have rep3 := rep.kt (c0.kt.trans c03.kt)
      walk_at "g"
      refine fun dp ndp => ?_
      have c3' : Ch K [] H3 (upd H3 dp (.dK [])) := Ch.new ndp
      have f3 : (upd H3 dp (.dK [])) dp = some (.dK []) := upd_same
      generalize upd H3 dp (.dK []) = H3' at c3' f3 ⊢
      walk_at "g"
      refine ⟨szle (by simp), fun u1 H4 m4 f4 c4 => ?_⟩
      walk_at "g"
      refine ⟨szle (by simp), fun u2 H5 m5 f5 c5 => ?_⟩
      walk_at "g"
      refine ⟨szle (by simp), fun u3 H6 m6 f6 c6 => ?_⟩
      walk_at "g"
      refine ⟨.str (wdT (.d d)) :: restT (.d d), by rw [← encT_eq]; exact rep3.kt (((c3'.kt.trans c4.kt).trans c5.kt).trans c6.kt), fun u4 H7 c7 r7 => ?_⟩
      walk_at "g"
      have c37 := (((c3'.trans c4).trans c5).trans c6).trans c7
      have fd7 : H7 dp = some (.dK []) := c7.up _ _ (c6.up _ _ (c5.up _ _ (c4.up _ _ f3 (by simp)) (by simp)) (by simp)) (by simp)
      refine ⟨fd7, [(Sum.inr "if", V.ref u1), (Sum.inr "while", V.ref u2), (Sum.inr "do", V.ref u3), (Sum.inr "set", u4)], rfl, by simp, ?_⟩
      have c38 : Ch K [] H3 (upd H7 dp (.dK (mergeK [] [(Sum.inr "if", V.ref u1), (Sum.inr "while", V.ref u2), (Sum.inr "do", V.ref u3), (Sum.inr "set", u4)]))) := Ch.wrN c37 ndp fd7 rfl
      have k78 : Kt K H7 (upd H7 dp (.dK (mergeK [] [(Sum.inr "if", V.ref u1), (Sum.inr "while", V.ref u2), (Sum.inr "do", V.ref u3), (Sum.inr "set", u4)]))) := (Ch.wr (S := [dp]) fd7 rfl (by simp)).kt
      have f8 : (upd H7 dp (.dK (mergeK [] [(Sum.inr "if", V.ref u1), (Sum.inr "while", V.ref u2), (Sum.inr "do", V.ref u3), (Sum.inr "set", u4)]))) dp = some (.dK (mergeK [] [(Sum.inr "if", V.ref u1), (Sum.inr "while", V.ref u2), (Sum.inr "do", V.ref u3), (Sum.inr "set", u4)])) := upd_same
      generalize upd H7 dp (.dK (mergeK [] [(Sum.inr "if", V.ref u1), (Sum.inr "while", V.ref u2), (Sum.inr "do", V.ref u3), (Sum.inr "set", u4)])) = H8 at c38 k78 f8 ⊢
      have hS8 := c38.sqT hS
      walk_at "g"
      refine ⟨.inl ⟨_, .inl f8⟩, ?_⟩
      walk_at "g"
      have rep8 := rep3.kt c38.kt
      refine ⟨.str (wdT (.d d)) :: restT (.d d), by rw [← encT_eq]; exact rep8, fun v9 H9 c9 r9 => ?_⟩
      refine ⟨_, DGet.k (k := Sum.inr (wdT (.d d))) (c9.up _ _ f8 (by simp)), ?_⟩
      rw [cutT1] at r9
      have k79 := k78.trans c9.kt
      have hrow : Rep K H9 ((valV (mergeK [] [(Sum.inr "if", V.ref u1), (Sum.inr "while", V.ref u2), (Sum.inr "do", V.ref u3), (Sum.inr "set", u4)]) (Sum.inr (wdT (.d d)))).getD v9) (rowT (.d d)) := by
        have q4 : Rep K H9 (.ref u1) (.tup [.str "unless"]) := .tup (((((c5.trans c6).trans c7).kt).trans k79).t _ _ (SqT.of f4)) (.cons (.str _) .nil)
        have q5 : Rep K H9 (.ref u2) (.tup [.str "unless"]) := .tup ((((c6.trans c7).kt).trans k79).t _ _ (SqT.of f5)) (.cons (.str _) .nil)
        have q6 : Rep K H9 (.ref u3) (.tup [.str "away"]) := .tup (((c7.kt).trans k79).t _ _ (SqT.of f6)) (.cons (.str _) .nil)
        cases d with
        | set i p =>
          have r7' := r7.kt k79
          rw [show cutT (T.str (wdT (.d (.set i p))) :: restT (.d (.set i p))) none (some 2) = [.str "set", .int i] from rfl] at r7'
          exact r7'
        | ite p a b => exact q4
        | whl p b => exact q5
        | dop p => exact q6
        | _ => exact r9
      generalize (valV (mergeK [] [(Sum.inr "if", V.ref u1), (Sum.inr "while", V.ref u2), (Sum.inr "do", V.ref u3), (Sum.inr "set", u4)]) (Sum.inr (wdT (.d d)))).getD v9 = rv at hrow ⊢
      have c39 := c38.trans c9
      have e9 := c39.up _ _ e3 (by simp)
      have d9 := c39.up _ _ d3 (by simp)
      walk_at "g"
      refine ⟨szle (by simp), fun pp HA nA fA cA => ?_⟩
      walk_at "g"
      refine ⟨szle (by simp), fun ql HB nB fB cB => ?_⟩
      walk_at "g"
      have cAB := c39.trans (cA.trans cB)
      have l3 : es3.length = szPs (innerD d) := by rw [t3.len, layPs_len]
      refine ⟨fl, ql, es3, [.ref pp], rfl, rfl, cAB.up _ _ e3 (by simp), fB, by rw [l3, sizeLine_eq]; simp; omega, fun l9 HC nC fC cC => ?_⟩
      have c3C := cAB.trans cC
      have c0C : Ch K [] H HC := by
        refine ⟨fun b o hb nn => c3C.up b o (c03.up b o (c0.up b o hb (by simp)) fun z => ?_) (by simp), (c0.kt.trans c03.kt).trans c3C.kt⟩
        simp at z
        rw [z, n0] at hb
        cases hb
      have hlC : H l9 = none := by
        cases e : H l9 with
        | none => rfl
        | some o =>
          have hl9 : l9 ≠ fl := fun z => by rw [z, n0] at e; cases e
          rw [cAB.up _ _ (c03.up _ _ (c0.up _ _ e (by simp)) (by simpa using hl9)) (by simp)] at nC
          cases nC
      refine q HC l9 _ c0C hlC fC ?_
      have tC := ((t3.ch c3C (by simp)).less (M := N) (by simp; intro x h; exact .inr (.inr h))).snoc (e := ⟨rowT (.d d), kidsOf (innerD d) 0⟩) ((cB.trans cC).sqT (SqT.of fA)) (((hrow.kt cA.kt).kt cB.kt).kt cC.kt) (((cA.trans cB).trans cC).up _ _ d9 (by simp)) nDN
      exact tC
end
end K3
end

section
set_option maxRecDepth 100000
set_option maxHeartbeats 1000000
open Bq L2
/-- one step of a reading; what is left are side goals and places to think -/
local macro_rules | `(tactic| walk_at "g1") => `(tactic| first
  | with_reducible refine' g_seq ?_ | with_reducible refine' g_asg ?_ | with_reducible refine' g_drop ?_ | with_reducible refine' g_ret ?_ | with_reducible refine' g_ifS ?_ | with_reducible refine' g_asgG ?_
  | ((with_reducible refine' g_var ?hv ?_); (case hv => rfl))
  | with_reducible refine' g_c ?_ | with_reducible refine' g_op ?_ | with_reducible refine' g_un ?_ | with_reducible refine' g_I0 ?_ | with_reducible refine' g_U ?_
  | with_reducible refine' g_test ?_ | with_reducible refine' g_tB ?_ | with_reducible refine Exists.intro _ (And.intro rfl ?_) 
  | ((with_reducible refine' g_andP ?ha ?hb ?_); (case ha => intro R q; walk_at "g"; exact q); (case hb => intro R q; walk_at "g"; exact q))
  | ((with_reducible refine' g_orP ?ha ?hb ?_); (case ha => intro R q; walk_at "g"; exact q); (case hb => intro R q; walk_at "g"; exact q))
  | with_reducible refine' g_and ?_ | with_reducible refine' g_or ?_ | with_reducible refine' g_not ?_
  | with_reducible refine' g_andV ?_ | with_reducible refine' g_orV ?_ | with_reducible refine' g_notV ?_ | with_reducible refine' g_if ?_ | with_reducible refine' g_nil ?_ | with_reducible refine' g_cons ?_
  | with_reducible refine' g_tup ?_ | with_reducible refine' g_lst ?_ | with_reducible refine' g_CB ?_ | with_reducible refine' g_Fn ?_ | with_reducible refine' g_next ?_ | with_reducible refine' g_retN ?_
  | with_reducible refine' g_name ?_ | with_reducible refine' g_sub ?_
  | ((with_reducible refine' g_ixL ?hs ?he ?_); (case hs => walk_at "lk"); (case he => walk_at "at"))
  | ((with_reducible refine' g_ixT ?hs ?he ?_); (case hs => walk_at "lk"); (case he => walk_at "at"))
  | ((with_reducible refine' g_setL ?hs ?he ?_); (case hs => walk_at "hp"); (case he => rfl))
  | ((with_reducible refine' g_app ?hs ?hz ?_); (case hs => walk_at "hp"); (case hz => walk_at "sz"))
  | ((with_reducible refine' ⟨_, _, rfl, Or.inl ?hs, ?_⟩); (case hs => walk_at "lk"))
  | ((with_reducible refine' ⟨_, _, rfl, Or.inr ?hs, ?_⟩); (case hs => walk_at "lk"))
  | with_reducible refine' g_BM ?_ | with_reducible refine' g_BM0 ?_ | ((with_reducible refine' g_tyL ?hs ?_); (case hs => walk_at "lk"))
  | with_reducible refine' g_sl ?_ | with_reducible refine' g_noPart ?_ | with_reducible refine' g_part ?_
  | ((with_reducible refine' g_inT ?hs ?fx ?fs ?_); (case hs => walk_at "lk"); (case fx => rfl); (case fs => rfl))
  | with_reducible refine' g_pair ?_ | with_reducible refine' g_pair0 ?_ | with_reducible refine' g_disp ?_
  | with_reducible refine' g_for ?_ | with_reducible refine' g_tupC ?_ | with_reducible refine' g_lstC ?_ | ((with_reducible refine' g_lens ?_)) | with_reducible refine' g_dg ?_ | with_reducible refine' g_lc ?_ | with_reducible refine' g_rng1 ?_ | with_reducible refine' g_ilist ?_ | with_reducible refine' g_itup ?_
  | ((with_reducible refine' ⟨_, _, rfl, ?hd, ?_⟩); (case hd => walk_at "dg"))
  | ((with_reducible refine' g_eqNil ?hs ?hz ?_); (case hs => walk_at "lk"); (case hz => walk_at "lk"))
  | ((with_reducible refine' g_neNil ?hs ?hz ?_); (case hs => walk_at "lk"); (case hz => walk_at "lk"))
  | with_reducible refine Or.inl ⟨_, rfl, ?_⟩
  | with_reducible refine Or.inr ⟨_, rfl, ?_⟩
  | ((with_reducible refine' g_eq ?hs ?_); (case hs => rfl))
  | ((with_reducible refine' g_ne ?hs ?_); (case hs => rfl))
  | ((with_reducible refine' g_I ?hc ?_); (case hc => walk_at "ar")))
/-- arithmetic's side conditions -/
local macro_rules | `(tactic| walk_at "ar") => `(tactic| (first
  | (show (0 : Int) < _; first | omega | decide) | (show (0 : Int) < _ ∧ _; constructor <;> omega) | (show ¬ (_ : Int) = _; omega) | (show (_ : Int) ≠ _ ∧ _; constructor <;> omega)
  | (show (-(2 ^ 64) < _ ∧ _) ∨ _; (first | (left; constructor <;> omega) | (right; constructor <;> omega))) | (show (0 : Int) ≤ _ ∧ _ ∧ _; refine ⟨by omega, by omega, by decide⟩)))
/-- what stands at an index -/
local macro_rules | `(tactic| walk_at "at") => `(tactic| first | rfl | assumption)
/-- what stands at an address -/
local macro_rules | `(tactic| walk_at "hp") => `(tactic| first | assumption | exact upd_same | ((refine' Eq.trans (upd_ne ?hn) ?hm); (case hm => walk_at "hp"); (case hn => walk_at "ne")))
/-- two places are two -/
local macro_rules | `(tactic| walk_at "ne") => `(tactic| first
  | assumption | exact Ne.symm (by assumption)
  | ((refine' ne_of_none ?ha ?hb); (case hb => assumption); (case ha => walk_at "hp")) | ((refine' Ne.symm (ne_of_none ?ha ?hb)); (case hb => assumption); (case ha => walk_at "hp")))
/-- what a dict tells -/
local macro_rules | `(tactic| walk_at "dg") => `(tactic| first | assumption)
/-- a length -/
local macro_rules | `(tactic| walk_at "sz") => `(tactic| first | (show _ ≤ sizeLine; decide) | (show _ < sizeLine; decide) | assumption | exact szlt (by simp) | exact szle (by simp))
/-- a list or tuple that stands -/
local macro_rules | `(tactic| walk_at "lk") => `(tactic| first | assumption | exact SqL.of (by assumption) | exact SqT.of (by assumption) | exact SqL.of upd_same | exact SqT.of upd_same | (refine' FzL.sq ?hm; (case hm => walk_at "fz")))
/-- a list that nobody writes -/
local macro_rules | `(tactic| walk_at "fz") => `(tactic| first | assumption | ((refine' FzL.uw ?hm ?hx); (case hx => walk_at "hp"); (case hm => walk_at "fz")) | ((refine' FzL.nw ?hm ?hx); (case hx => assumption); (case hm => walk_at "fz")))
/-- as far as it goes by itself -/
local macro_rules | `(tactic| walk_at "g") => `(tactic| repeat walk_at "g1")
/-- the body's reading, its places in short -/
local macro_rules | `(tactic| walk_at "go") => `(tactic| ((try dsimp only [cxOf, Cx.nox, Cx.wish]); walk_at "g"))
namespace K3
open PySem PySem.Spec PyProof.Rows L2 Bq
section
variable {P : Program} {w : World} {K : PySem.W.Frag} {mg : Str → Option Value} {base : Heap}
/-- further steps: dicts written, tuples taken apart -/
local macro_rules | `(tactic| walk_at "g1") => `(tactic| first
  | with_reducible refine' g_sdput ?_
  | ((with_reducible refine' g_gtup ?hs ?hl ?_); (case hs => walk_at "lk"); (case hl => rfl))
  | with_reducible refine' g_gcons ?_
  | with_reducible refine' g_gnil ?_
  | with_reducible refine' And.intro (Eq.refl V.non) ?_
  | with_reducible refine' g_isN ?_
  | ((with_reducible refine' g_chainR ?ha ?hb ?hc ?_); (case ha => intro R q; walk_at "g"; exact q); (case hb => intro R q; walk_at "g"; exact q); (case hc => intro R q; walk_at "g"; exact q))
  | with_reducible refine' g_notN ?_)
/-- what the law's dict tells -/
local macro_rules | `(tactic| walk_at "dg") => `(tactic| first
  | assumption
  | exact LH.gfuns (by assumption)
  | exact LH.gsaid (by assumption)
  | exact LH.gcells (by assumption)
  | exact LH.gfuel (by assumption)
  | exact LH.gend (by assumption)
  | exact LH.gcalls (by assumption)
  | exact LH.gnames (by assumption)
  | exact LH.gwaits (by assumption)
  | exact LH.gworth (by assumption)
  | exact LH.glook (by assumption))
/-- a test that fails, that holds, by itself -/
local macro_rules | `(tactic| walk_at "no") => `(tactic| ((refine tkF rfl ?_); walk_at "g"))
local macro_rules | `(tactic| walk_at "yes") => `(tactic| ((refine tkT rfl ?_); walk_at "g"))
local macro_rules | `(tactic| walk_at "g1") => `(tactic| first
  | with_reducible refine' g_catS ?_
  | with_reducible refine' g_mulS ?_
  | with_reducible refine' g_rev ?_)
/-- numbers in lists, more -/
local macro_rules | `(tactic| walk_at "g1") => `(tactic| first
  | with_reducible refine' g_augS ?_
  | with_reducible refine' g_ipI ?_
  | with_reducible refine' g_revL ?_
  | ((with_reducible refine' g_getL ?hs ?he ?_); (case hs => walk_at "lk"); (case he => walk_at "at"))
  | with_reducible refine' g_enum ?_)
open Fl
def spLLoud (K : PySem.W.Frag) : Sp := fun vs H Q _ => ∃ a es E N, vs = [.ref a] ∧ SqL K H a es ∧ TreeR K H N es E ∧ OkRow E ∧ E.length ≤ 400 ∧ ∀ H' l, Ch K [] H H' → H l = none → H' l = some (.lst (niv (loudsOf E))) → Q (.ref l) H'
theorem fn_lloud (C : Cn w K mg base) : Fn P w K mg base CX0 1 "_law_loud" ["_law_tree_here"] (spLLoud K) := C.f_law_loud fun fd F => by
  refine F.ok (CX := CX0) sc_law_loud (fun vs H Q E h => ?_) (fun cdv A outer s H vs Q E hr h => ?_)
  · obtain ⟨a, es, E, N, rfl, _⟩ := h
    rfl
  · obtain ⟨a, es, E, N, rfl, ha, tr, okr, lE, q⟩ := h
    refine ⟨_, PSs.nox (pss_one (ps_ret (pe_lc (own := [("_law_number", 1)]) (g := gName 1) rfl sc_law_loud.nd (pi_range1 (by rfl) (C.m_range) (pa_cons (pe_callB call_len_seq (by rfl) (C.m_len) PySem.boot_len (pa_cons (pv 0) pa_nil)) pa_nil)) (blkOk_by (own := [("_law_number", 1)]) (N := ["_law_tree_here", "_law_number"]) (sc := defScope s_law_loud) (by decide +kernel)) (fun _ _ _ _ _ => pg_name (i := 1) sc_law_loud.nd rfl (Or.inl rfl)) (fun _ _ _ _ _ => pts_one (pt_cmpR (op_in_seqK K) (pe_ix (ix_tupK K) (pe_ix (ix_tupK K) (pe_ix (ix_listK K) (pv 0) (pv 1) (fun _ _ => rfl)) pe_int (fun _ _ => rfl)) pe_int (fun _ _ => rfl)) (pe_tupCK K (pa_cons pe_str (pa_cons pe_str (pa_cons pe_str (pa_cons pe_str pa_nil))))) (by rfl))) (fun _ _ _ _ _ => (pv 1))))), ?_⟩
    have le : es.length = E.length := tr.len
    walk_at "go"
    refine ⟨by omega, by omega, fun D nD => ?_⟩
    rw [Int.toNat_natCast]
    refine lc_it (walk_range (n := es.length)) (fun i H' => Ch K [] H H' ∧ H' D = some (.lst (niv (loudL (E.take i) 0)))) ⟨Ch.new nD, by rw [upd_same, List.take_zero]; rfl⟩ (fun i H' _ _ => trivial) ?_ ?_
    · rintro i x1 H2 H3 hi ⟨c2, e2⟩ ⟨rfl, hx⟩
      cases hx
      obtain ⟨e, ea, rv, ka, he, hva, hea, rr, hka, _⟩ := (tr.ch c2 (by simp)).at (List.getElem?_eq_getElem hi)
      obtain ⟨w, r, hw⟩ := okr e (List.mem_of_getElem? he)
      rw [hw] at rr
      obtain ⟨ra, rvs, rfl, hra, rrs⟩ := rr.tupI
      obtain ⟨r0, rvs2, rfl, q0, _⟩ := rrs.consI
      obtain rfl := q0.strI
      have ha2 := c2.sqL ha (by simp)
      have g1 : atI es (0 + (i : Int)) = some (V.ref ea) := by
        rw [Int.zero_add]
        exact atI_nat (by rw [List.getElem?_eq_getElem hi, hva])
      have g2 : atI [V.ref ra, V.ref ka] 0 = some (V.ref ra) := atI_nat (j := 0) rfl
      have g3 : atI (V.str w :: rvs2) 0 = some (V.str w) := atI_nat (j := 0) rfl
      have sn := loudL_snoc e (E.take i) 0
      rw [← take_snoc he, hw] at sn
      have ti : (E.take i).length = i := by rw [List.length_take]; omega
      have hz2 : (niv (loudL (E.take i) 0)).length < sizeLine := by
        have := loudL_len (E.take i) 0
        rw [niv_len, sizeLine_eq]
        omega
      walk_at "g"
      refine ⟨rfl, ?_⟩
      walk_at "g"
      refine ⟨szle (by simp), fun p H4 n4 e4 c4 => ?_⟩
      walk_at "g"
      have d4 := c4.up _ _ e2 (by simp)
      have c24 := c2.trans c4
      refine iteB (fun h0 => ?_) (fun h0 => ?_)
      · walk_at "g"
        refine ⟨_, d4, hz2, Ch.wrN c24 nD d4 rfl, ?_⟩
        rw [upd_same, sn, show loudW (rowW (.tup (.str w :: r))) = true from h0, if_pos rfl, niv_app, ti, Nat.zero_add]
        rw [show (fun i : Nat => V.int (0 + (i : Int))) i = V.int ((i : Nat) : Int) by simp]
        rfl
      · refine ⟨c24, ?_⟩
        rw [d4, sn, show loudW (rowW (.tup (.str w :: r))) = false from h0, if_neg Bool.false_ne_true, List.append_nil]
    · rintro H2 ⟨c2, e2⟩
      rw [le, List.take_length] at e2
      exact q H2 D c2 nD e2
def outKs : List LE → Nat → List (Key × V)
  | [], _ => []
  | e :: r, i => e.kids.map (fun k => (Sum.inl ((k : Nat) : Int), V.int ((i : Nat) : Int))) ++ outKs r (i + 1)
def outK (E : List LE) : List (Key × V) := outKs E 0
theorem outKs_snoc (e : LE) : ∀ (E : List LE) (i : Nat), outKs (E ++ [e]) i = outKs E i ++ e.kids.map (fun k => (Sum.inl ((k : Nat) : Int), V.int ((i + E.length : Nat) : Int)))
  | [], i => by simp [outKs]
  | a :: r, i => by
    simp only [List.cons_append, outKs, outKs_snoc e r (i + 1), List.append_assoc, List.length_cons]
    rw [show i + 1 + r.length = i + (r.length + 1) by omega]
theorem outKs_keys : ∀ (E : List LE) (i : Nat), (outKs E i).map Prod.fst = (kidsAll E).map fun k => Sum.inl ((k : Nat) : Int)
  | [], i => rfl
  | e :: r, i => by
    simp only [outKs, kidsAll, List.map_append, outKs_keys r (i + 1), List.map_map]
    rfl
theorem outKs_mem : ∀ {E : List LE} {i j k : Nat} {e : LE}, E[j]? = some e → k ∈ e.kids → ((Sum.inl ((k : Nat) : Int), V.int ((i + j : Nat) : Int)) : Key × V) ∈ outKs E i
  | a :: r, i, 0, k, e, h, hk => by
    simp at h
    subst h
    simp only [outKs, List.mem_append]
    exact .inl (List.mem_map.mpr ⟨k, hk, rfl⟩)
  | a :: r, i, j + 1, k, e, h, hk => by
    simp only [outKs, List.mem_append]
    refine .inr ?_
    have := outKs_mem (i := i + 1) (E := r) (j := j) (by simpa using h) hk
    rwa [show i + 1 + j = i + (j + 1) by omega] at this
theorem valV_mem : ∀ {kvs : List (Key × V)} {k : Key} {v : V}, (kvs.map Prod.fst).Nodup → (k, v) ∈ kvs → valV kvs k = some v
  | (k1, v1) :: r, k, v, nd, h => by
    simp only [List.map_cons, List.nodup_cons] at nd
    rcases List.mem_cons.mp h with h | h
    · cases h
      exact valV_pos rfl
    · have : k1 ≠ k := fun e => nd.1 (e ▸ List.mem_map.mpr ⟨_, h, rfl⟩)
      have ih := valV_mem nd.2 h
      unfold valV at ih ⊢
      rw [List.find?_cons]
      simp only [this, decide_false]
      exact ih
theorem putK_new {kvs : List (Key × V)} {k : Key} {v : V} (h : k ∉ kvs.map Prod.fst) : putK kvs k v = kvs ++ [(k, v)] := by
  unfold putK
  rw [if_neg]
  intro e
  obtain ⟨kv, h1, h2⟩ := List.any_eq_true.mp e
  exact h (List.mem_map.mpr ⟨kv, h1, by simpa using h2⟩)
theorem inl_inj {l : List Nat} (h : l.Nodup) : (l.map fun k => (Sum.inl ((k : Nat) : Int) : Key)).Nodup := by
  rw [List.nodup_iff_pairwise_ne] at h ⊢
  rw [List.pairwise_map]
  exact h.imp fun hab e => hab (by cases e; rfl)
theorem OkLE.out {E : List LE} (o : OkLE E) {k : Nat} (h : k < E.length - 1) : valV (outK E) (Sum.inl ((k : Nat) : Int)) = some (.int ((parE E k : Nat) : Int)) := by
  obtain ⟨e, h1, h2, _⟩ := o.par h
  refine valV_mem ?_ ?_
  · unfold outK
    rw [outKs_keys]
    exact inl_inj o.nd
  · have := outKs_mem (i := 0) h1 h2
    rwa [Nat.zero_add] at this
theorem OkLE.out_len {E : List LE} (o : OkLE E) : (outK E).length = E.length - 1 := by
  have h1 := congrArg List.length (outKs_keys E 0)
  rw [List.length_map, List.length_map] at h1
  have h2 := o.perm.length_eq
  rw [List.length_range] at h2
  unfold outK
  omega
def spLOuter (K : PySem.W.Frag) : Sp := fun vs H Q _ => ∃ a es E N, vs = [.ref a] ∧ SqL K H a es ∧ TreeR K H N es E ∧ OkLE E ∧ ∀ H' l, Ch K [] H H' → H l = none → H' l = some (.dK (outK E)) → Q (.ref l) H'
theorem fn_louter (C : Cn w K mg base) : Fn P w K mg base CX0 2 "_law_outer" ["_law_tree_here"] (spLOuter K) := C.f_law_outer fun fd F => by
  refine F.ok (CX := CX0) sc_law_outer (fun vs H Q E h => ?_) (fun cdv A outer s H vs Q E hr h => ?_)
  · obtain ⟨a, es, E, N, rfl, _⟩ := h
    rfl
  · obtain ⟨a, es, E, N, rfl, ha, tr, o, q⟩ := h
    have hu := hu_of (rmm (j := 1) hr)
    refine ⟨_, PSs.nox (pss_cons (ps_set (i := 1) sc_law_outer.nd rfl (Or.inl rfl) pe_dnewK)
      (pss_cons (ps_for PassesOwn.never rfl (pi_range1 (by rfl) (C.m_range) (pa_cons (pe_callB call_len_seq (by rfl) (C.m_len) PySem.boot_len (pa_cons (pv 0) pa_nil)) pa_nil)) (pg_name (i := 2) sc_law_outer.nd rfl (Or.inl rfl)) (pss_one (ps_for PassesOwn.never rfl (pi_list (pe_ix ix_tup (pe_ix ix_list (pv 0) (pv 2) (fun _ _ => rfl)) pe_int (fun _ _ => rfl))) (pg_name (i := 3) sc_law_outer.nd rfl (Or.inl rfl)) (pss_one (ps_dput hu (pv 1) (pv 3) (pv 2) rfl)))))
      (pss_one (ps_ret (pv 1))))), ?_⟩
    have le : es.length = E.length := tr.len
    have n2 := o.n2
    walk_at "go"
    refine fun D nD => ?_
    have c1 : Ch K [] H (upd H D (.dK [])) := Ch.new nD
    have d1 : (upd H D (.dK [])) D = some (.dK (outKs (E.take 0) 0)) := by rw [upd_same, List.take_zero]; rfl
    generalize upd H D (.dK []) = H1 at c1 d1 ⊢
    have ha1 := c1.sqL ha (by simp)
    walk_at "g"
    refine ⟨by omega, by omega, ?_⟩
    rw [Int.toNat_natCast]
    refine for_rng (fun i σ' H' => ∃ x2 x3, σ' = [some (.ref a), some (.ref D), x2, x3] ∧ Ch K [] H H' ∧ H' D = some (.dK (outKs (E.take i) 0))) ⟨_, _, rfl, c1, d1⟩ ?_ ?_
    · rintro i σ H2 hi ⟨x2, x3, rfl, c2, d2⟩
      obtain ⟨e, ea, rv, ka, he, hva, hea, rr, hka, _⟩ := (tr.ch c2 (by simp)).at (List.getElem?_eq_getElem hi)
      have g1 : atI es ((i : Nat) : Int) = some (V.ref ea) := atI_nat (by rw [List.getElem?_eq_getElem hi, hva])
      have g2 : atI [rv, V.ref ka] 1 = some (V.ref ka) := atI_nat (j := 1) rfl
      have ha2 := c2.sqL ha (by simp)
      have ska := SqL.of (K := K) hka
      have nDk : ka ≠ D := fun z => by rw [z, d2] at hka; cases hka
      have nd := o.nd
      have sp : E = E.take i ++ e :: E.drop (i + 1) := by
        obtain ⟨hlt, h⟩ := List.getElem?_eq_some_iff.mp he
        rw [← h, List.getElem_cons_drop, List.take_append_drop]
      rw [sp, kidsAll_app] at nd
      simp only [kidsAll] at nd
      have ol := o.out_len
      walk_at "g"
      refine ⟨⟨_, ska⟩, ?_⟩
      refine for_it (walk_list (xs := niv e.kids)) (fun j σ' H' => ∃ x3, σ' = [some (.ref a), some (.ref D), some (.int (i : Nat)), x3] ∧ Ch K [] H H' ∧ H' ka = some (.lst (niv e.kids)) ∧ H' D = some (.dK (outKs (E.take i) 0 ++ (e.kids.take j).map (fun k => (Sum.inl ((k : Nat) : Int), V.int ((i : Nat) : Int)))))) ⟨_, rfl, c2, hka, by rw [d2]; simp⟩ (fun j σ' H' _ ⟨_, _, _, h, _⟩ => SqL.of h) ?_ ?_
      · rintro j y σ H3 _ hj ⟨x3, rfl, c3, hk3, d3⟩ ⟨rfl, hy⟩
        obtain ⟨k, hk, rfl⟩ := niv_at hy
        walk_at "g"
        have hj2 : j < e.kids.length := by rw [niv_len] at hj; exact hj
        have nk : (Sum.inl ((k : Nat) : Int) : Key) ∉ (outKs (E.take i) 0 ++ (e.kids.take j).map (fun k => ((Sum.inl ((k : Nat) : Int), V.int ((i : Nat) : Int)) : Key × V))).map Prod.fst := by
          rw [List.map_append, outKs_keys, List.map_map]
          have nd1 := List.nodup_append.mp nd
          have nd2 := (List.nodup_append.mp nd1.2.1).1
          have hkm : k ∈ e.kids := List.mem_of_getElem? hk
          intro z
          rcases List.mem_append.mp z with z | z
          · obtain ⟨k', h1, h2⟩ := List.mem_map.mp z
            have : k' = k := by cases h2; rfl
            subst this
            exact nd1.2.2 k' h1 k' (by simp [hkm]) rfl
          · obtain ⟨k', h1, h2⟩ := List.mem_map.mp z
            have : k' = k := by cases h2; rfl
            subst this
            obtain ⟨j', hj', e'⟩ := List.mem_iff_getElem.mp h1
            rw [List.length_take] at hj'
            rw [List.getElem_take] at e'
            rw [List.getElem?_eq_getElem hj2] at hk
            have := (List.getElem_inj (h₀ := by omega) (h₁ := hj2) nd2).mp (by rw [e']; exact (Option.some.inj hk).symm : e.kids[j']'(by omega) = e.kids[j])
            omega
        have hz : (outKs (E.take i) 0 ++ (e.kids.take j).map (fun k => ((Sum.inl ((k : Nat) : Int), V.int ((i : Nat) : Int)) : Key × V))).length < sizeLine := by
          have h1 := congrArg List.length (outKs_keys (E.take i) 0)
          rw [List.length_map, List.length_map] at h1
          have h2 := o.perm.length_eq
          rw [List.length_range] at h2
          have h3 := congrArg (fun X => (kidsAll X).length) sp
          simp only [kidsAll_app, kidsAll, List.length_append] at h3
          rw [List.length_append, List.length_map, List.length_take, h1, sizeLine_eq]
          omega
        refine ⟨D, _, rfl, .inl ⟨_, Sum.inl ((k : Nat) : Int), d3, rfl, hz, rfl⟩, ?_⟩
        rw [putK_new nk]
        refine ⟨_, rfl, Ch.wrN c3 nD d3 rfl, by rw [upd_ne nDk]; exact hk3, ?_⟩
        rw [upd_same, take_snoc hk, List.map_append, List.append_assoc]
        rfl
      · rintro σ H3 ⟨x3, rfl, c3, hk3, d3⟩
        rw [niv_len, List.take_length] at d3
        refine ⟨_, _, rfl, c3, ?_⟩
        rw [d3, take_snoc he, outKs_snoc]
        rw [List.length_take, Nat.min_eq_left (by omega), Nat.zero_add]
    · rintro σ H2 ⟨x2, x3, rfl, c2, d2⟩
      rw [le, List.take_length] at d2
      walk_at "g"
      exact q H2 D c2 nD d2
theorem Ch.unlock {H1 H2 : Hp} {d : Addr} {od : Obj} {kvs : List (Key × V)} (e1 : H1 d = some (.dK kvs)) (c2 : Ch K [] (upd H1 d (.frz od (.dK kvs))) H2) : Ch K [] H1 (upd H2 d (.dK kvs)) := by
  have main : ∀ b v, H1 b = some v → b ≠ d → (upd H2 d (.dK kvs)) b = some v := fun b v e n => by
    rw [upd_ne n]
    exact c2.up b v (by rw [upd_ne n]; exact e) (by simp)
  refine ⟨fun b v e _ => ?_, kt_of (fun b ys e => ?_) fun b ob v e => ?_⟩
  · by_cases z : b = d
    · subst z
      rw [e1] at e
      cases e
      exact upd_same
    · exact main b v e z
  · exact main b _ e (fun z => by rw [z, e1] at e; cases e)
  · exact main b _ e (fun z => by rw [z, e1] at e; cases e)
end
end K3
end

section
set_option maxRecDepth 100000
set_option maxHeartbeats 1000000
open Bq L2
/-- one step of a reading; what is left are side goals and places to think -/
local macro_rules | `(tactic| walk_at "g1") => `(tactic| first
  | with_reducible refine' g_seq ?_ | with_reducible refine' g_asg ?_ | with_reducible refine' g_drop ?_ | with_reducible refine' g_ret ?_ | with_reducible refine' g_ifS ?_ | with_reducible refine' g_asgG ?_
  | ((with_reducible refine' g_var ?hv ?_); (case hv => rfl))
  | with_reducible refine' g_c ?_ | with_reducible refine' g_op ?_ | with_reducible refine' g_un ?_ | with_reducible refine' g_I0 ?_ | with_reducible refine' g_U ?_
  | with_reducible refine' g_test ?_ | with_reducible refine' g_tB ?_ | with_reducible refine Exists.intro _ (And.intro rfl ?_) 
  | ((with_reducible refine' g_andP ?ha ?hb ?_); (case ha => intro R q; walk_at "g"; exact q); (case hb => intro R q; walk_at "g"; exact q))
  | ((with_reducible refine' g_orP ?ha ?hb ?_); (case ha => intro R q; walk_at "g"; exact q); (case hb => intro R q; walk_at "g"; exact q))
  | with_reducible refine' g_and ?_ | with_reducible refine' g_or ?_ | with_reducible refine' g_not ?_
  | with_reducible refine' g_andV ?_ | with_reducible refine' g_orV ?_ | with_reducible refine' g_notV ?_ | with_reducible refine' g_if ?_ | with_reducible refine' g_nil ?_ | with_reducible refine' g_cons ?_
  | with_reducible refine' g_tup ?_ | with_reducible refine' g_lst ?_ | with_reducible refine' g_CB ?_ | with_reducible refine' g_Fn ?_ | with_reducible refine' g_next ?_ | with_reducible refine' g_retN ?_
  | with_reducible refine' g_name ?_ | with_reducible refine' g_sub ?_
  | ((with_reducible refine' g_ixL ?hs ?he ?_); (case hs => walk_at "lk"); (case he => walk_at "at"))
  | ((with_reducible refine' g_ixT ?hs ?he ?_); (case hs => walk_at "lk"); (case he => walk_at "at"))
  | ((with_reducible refine' g_setL ?hs ?he ?_); (case hs => walk_at "hp"); (case he => rfl))
  | ((with_reducible refine' g_app ?hs ?hz ?_); (case hs => walk_at "hp"); (case hz => walk_at "sz"))
  | ((with_reducible refine' ⟨_, _, rfl, Or.inl ?hs, ?_⟩); (case hs => walk_at "lk"))
  | ((with_reducible refine' ⟨_, _, rfl, Or.inr ?hs, ?_⟩); (case hs => walk_at "lk"))
  | with_reducible refine' g_BM ?_ | with_reducible refine' g_BM0 ?_ | ((with_reducible refine' g_tyL ?hs ?_); (case hs => walk_at "lk"))
  | with_reducible refine' g_sl ?_ | with_reducible refine' g_noPart ?_ | with_reducible refine' g_part ?_
  | ((with_reducible refine' g_inT ?hs ?fx ?fs ?_); (case hs => walk_at "lk"); (case fx => rfl); (case fs => rfl))
  | with_reducible refine' g_pair ?_ | with_reducible refine' g_pair0 ?_ | with_reducible refine' g_disp ?_
  | with_reducible refine' g_for ?_ | with_reducible refine' g_tupC ?_ | with_reducible refine' g_lstC ?_ | ((with_reducible refine' g_lens ?_)) | with_reducible refine' g_dg ?_ | with_reducible refine' g_lc ?_ | with_reducible refine' g_rng1 ?_ | with_reducible refine' g_ilist ?_ | with_reducible refine' g_itup ?_
  | ((with_reducible refine' ⟨_, _, rfl, ?hd, ?_⟩); (case hd => walk_at "dg"))
  | ((with_reducible refine' g_eqNil ?hs ?hz ?_); (case hs => walk_at "lk"); (case hz => walk_at "lk"))
  | ((with_reducible refine' g_neNil ?hs ?hz ?_); (case hs => walk_at "lk"); (case hz => walk_at "lk"))
  | with_reducible refine Or.inl ⟨_, rfl, ?_⟩
  | with_reducible refine Or.inr ⟨_, rfl, ?_⟩
  | ((with_reducible refine' g_eq ?hs ?_); (case hs => rfl))
  | ((with_reducible refine' g_ne ?hs ?_); (case hs => rfl))
  | ((with_reducible refine' g_I ?hc ?_); (case hc => walk_at "ar")))
/-- arithmetic's side conditions -/
local macro_rules | `(tactic| walk_at "ar") => `(tactic| (first
  | (show (0 : Int) < _; first | omega | decide) | (show (0 : Int) < _ ∧ _; constructor <;> omega) | (show ¬ (_ : Int) = _; omega) | (show (_ : Int) ≠ _ ∧ _; constructor <;> omega)
  | (show (-(2 ^ 64) < _ ∧ _) ∨ _; (first | (left; constructor <;> omega) | (right; constructor <;> omega))) | (show (0 : Int) ≤ _ ∧ _ ∧ _; refine ⟨by omega, by omega, by decide⟩)))
/-- what stands at an index -/
local macro_rules | `(tactic| walk_at "at") => `(tactic| first | rfl | assumption)
/-- what stands at an address -/
local macro_rules | `(tactic| walk_at "hp") => `(tactic| first | assumption | exact upd_same | ((refine' Eq.trans (upd_ne ?hn) ?hm); (case hm => walk_at "hp"); (case hn => walk_at "ne")))
/-- two places are two -/
local macro_rules | `(tactic| walk_at "ne") => `(tactic| first
  | assumption | exact Ne.symm (by assumption)
  | ((refine' ne_of_none ?ha ?hb); (case hb => assumption); (case ha => walk_at "hp")) | ((refine' Ne.symm (ne_of_none ?ha ?hb)); (case hb => assumption); (case ha => walk_at "hp")))
/-- what a dict tells -/
local macro_rules | `(tactic| walk_at "dg") => `(tactic| first | assumption)
/-- a length -/
local macro_rules | `(tactic| walk_at "sz") => `(tactic| first | (show _ ≤ sizeLine; decide) | (show _ < sizeLine; decide) | assumption | exact szlt (by simp) | exact szle (by simp))
/-- a list or tuple that stands -/
local macro_rules | `(tactic| walk_at "lk") => `(tactic| first | assumption | exact SqL.of (by assumption) | exact SqT.of (by assumption) | exact SqL.of upd_same | exact SqT.of upd_same | (refine' FzL.sq ?hm; (case hm => walk_at "fz")))
/-- a list that nobody writes -/
local macro_rules | `(tactic| walk_at "fz") => `(tactic| first | assumption | ((refine' FzL.uw ?hm ?hx); (case hx => walk_at "hp"); (case hm => walk_at "fz")) | ((refine' FzL.nw ?hm ?hx); (case hx => assumption); (case hm => walk_at "fz")))
/-- as far as it goes by itself -/
local macro_rules | `(tactic| walk_at "g") => `(tactic| repeat walk_at "g1")
/-- the body's reading, its places in short -/
local macro_rules | `(tactic| walk_at "go") => `(tactic| ((try dsimp only [cxOf, Cx.nox, Cx.wish]); walk_at "g"))
namespace K3
open PySem PySem.Spec PyProof.Rows L2 Bq
section
variable {P : Program} {w : World} {K : PySem.W.Frag} {mg : Str → Option Value} {base : Heap}
/-- further steps: dicts written, tuples taken apart -/
local macro_rules | `(tactic| walk_at "g1") => `(tactic| first
  | with_reducible refine' g_sdput ?_
  | ((with_reducible refine' g_gtup ?hs ?hl ?_); (case hs => walk_at "lk"); (case hl => rfl))
  | with_reducible refine' g_gcons ?_
  | with_reducible refine' g_gnil ?_
  | with_reducible refine' And.intro (Eq.refl V.non) ?_
  | with_reducible refine' g_isN ?_
  | ((with_reducible refine' g_chainR ?ha ?hb ?hc ?_); (case ha => intro R q; walk_at "g"; exact q); (case hb => intro R q; walk_at "g"; exact q); (case hc => intro R q; walk_at "g"; exact q))
  | with_reducible refine' g_notN ?_)
/-- what the law's dict tells -/
local macro_rules | `(tactic| walk_at "dg") => `(tactic| first
  | assumption
  | exact LH.gfuns (by assumption)
  | exact LH.gsaid (by assumption)
  | exact LH.gcells (by assumption)
  | exact LH.gfuel (by assumption)
  | exact LH.gend (by assumption)
  | exact LH.gcalls (by assumption)
  | exact LH.gnames (by assumption)
  | exact LH.gwaits (by assumption)
  | exact LH.gworth (by assumption)
  | exact LH.glook (by assumption))
/-- a test that fails, that holds, by itself -/
local macro_rules | `(tactic| walk_at "no") => `(tactic| ((refine tkF rfl ?_); walk_at "g"))
local macro_rules | `(tactic| walk_at "yes") => `(tactic| ((refine tkT rfl ?_); walk_at "g"))
local macro_rules | `(tactic| walk_at "g1") => `(tactic| first
  | with_reducible refine' g_catS ?_
  | with_reducible refine' g_mulS ?_
  | with_reducible refine' g_rev ?_)
/-- numbers in lists, more -/
local macro_rules | `(tactic| walk_at "g1") => `(tactic| first
  | with_reducible refine' g_augS ?_
  | with_reducible refine' g_ipI ?_
  | with_reducible refine' g_revL ?_
  | ((with_reducible refine' g_getL ?hs ?he ?_); (case hs => walk_at "lk"); (case he => walk_at "at"))
  | with_reducible refine' g_enum ?_)
open Fl
/-! ### two lists of numbers -/
def rEqInts (K : PySem.W.Frag) : R2 := fun x y H Q => ∃ p q, ∃ xs ys : List Int, x = .ref p ∧ y = .ref q ∧ SqL K H p (iv xs) ∧ SqL K H q (iv ys) ∧ Q (.bl (decide (xs = ys))) H
theorem all_rangeI {xs ys : List Int} (hl : xs.length = ys.length) : (List.range xs.length).all (fun j => decide (xs[j]? = ys[j]?)) = decide (xs = ys) := by
  by_cases h : xs = ys
  · subst h
    simp
  · rw [decide_eq_false h, List.all_eq_false]
    apply Classical.byContradiction
    intro hn
    apply h
    apply List.ext_getElem? 
    intro j
    by_cases hj : j < xs.length
    · apply Classical.byContradiction
      intro hne
      exact hn ⟨j, List.mem_range.mpr hj, by simpa using hne⟩
    · rw [List.getElem?_eq_none (by omega), List.getElem?_eq_none (by omega)]
theorem op_eqInts {X : Cx} (hu : X.A.units < cLine) : OpR X (compareOp .Eq) (rEqInts X.K) := by
  intro pins s σ H x y v u Q I rx ry h
  obtain ⟨p, q, xs, ys, rfl, rfl, hp, hq, k⟩ := h
  cases rx
  cases ry
  obtain ⟨its, rv, pl, _⟩ := I.list hp
  obtain ⟨its2, rv2, pl2, _⟩ := I.list hq
  have l1 : its.length = xs.length := by rw [← rv.length]; simp [iv]
  have l2 : its2.length = ys.length := by rw [← rv2.length]; simp [iv]
  by_cases hl : xs.length = ys.length
  · have hsz : its.toArray.size = its2.toArray.size := by simp; omega
    refine PySem.SeqAt.eq_listAt (e := fun j => decide (xs[j]? = ys[j]?)) pl.isList pl2.isList hsz hu (fun j h1 h2 => ?_) ⟨.bl _, H, I, rfl, ?_⟩
    · have j1 : j < its.length := by simpa using h1
      have j2 : j < its2.length := by simpa using h2
      have e1 : (iv xs)[j]? = some (V.int (xs[j]'(by omega))) := by unfold iv; rw [List.getElem?_map, List.getElem?_eq_getElem (by omega)]; rfl
      have e2 : (iv ys)[j]? = some (V.int (ys[j]'(by omega))) := by unfold iv; rw [List.getElem?_map, List.getElem?_eq_getElem (by omega)]; rfl
      obtain ⟨u1, hu1, ru1⟩ := rv.get e1
      obtain ⟨u2, hu2, ru2⟩ := rv2.get e2
      obtain ⟨t1, rfl⟩ := ru1
      obtain ⟨t2, rfl⟩ := ru2
      have f1 : its.toArray[j] = Value.int (xs[j]'(by omega)) t1 := by
        rw [List.getElem?_eq_getElem j1] at hu1
        simpa using Option.some.inj hu1
      have f2 : its2.toArray[j] = Value.int (ys[j]'(by omega)) t2 := by
        rw [List.getElem?_eq_getElem j2] at hu2
        simpa using Option.some.inj hu2
      rw [f1, f2, List.getElem?_eq_getElem (by omega), List.getElem?_eq_getElem (by omega)]
      have : decide (some (xs[j]'(by omega)) = some (ys[j]'(by omega))) = (xs[j]'(by omega) == ys[j]'(by omega)) := by
        rw [Bool.eq_iff_iff]
        simp
      rw [this]
      exact PySem.SeqAt.EqAt.int_int _ _ _ _
    · have : (List.range its.toArray.size).all (fun j => decide (xs[j]? = ys[j]?)) = decide (xs = ys) := by
        rw [show its.toArray.size = xs.length by simp; omega]
        exact all_rangeI hl
      rw [this]
      exact k
  · refine PySem.SeqAt.eq_list_lengthsAt pl.isList pl2.isList (by simp; omega) hu ⟨.bl false, H, I, rfl, ?_⟩
    rw [decide_eq_false (fun h => hl (by rw [h]))] at k
    exact k
theorem g_eqInts {p q : Addr} {xs ys : List Int} {H : Hp} {Q : VK} (h : SqL K H p (iv xs)) (h2 : SqL K H q (iv ys)) (k : Q (.bl (decide (xs = ys))) H) : rEqInts K (.ref p) (.ref q) H Q := ⟨p, q, xs, ys, rfl, rfl, h, h2, k⟩
/-- whether stages lay a deed -/
structure RightE (E : List LE) (x : Nat → Int) : Prop where
  rg : ∀ v, v < E.length → 0 ≤ x v ∧ x v ≤ 1000
  par : ∀ k, k < E.length - 1 → x k < x (parE E k)
  ld : ((loudsOf E).map x).Pairwise (· ≤ ·)
theorem pairs_sorted (x : Nat → Int) : ∀ l : List Nat, (l.map x).Pairwise (· ≤ ·) ↔ ∀ m ∈ pairsL l, x m.lo ≤ x m.up
  | [] => by simp [pairsL]
  | [a] => by simp [pairsL]
  | a :: b :: r => by
    have ih := pairs_sorted x (b :: r)
    simp only [pairsL, List.forall_mem_cons]
    rw [← ih]
    constructor
    · intro h
      simp only [List.map_cons] at h ⊢
      cases h with
      | cons h1 h2 => exact ⟨h1 _ (by simp), h2⟩
    · rintro ⟨h1, h2⟩
      simp only [List.map_cons] at h2 ⊢
      refine .cons (fun c hc => ?_) h2
      cases h2 with
      | cons g1 g2 =>
        rcases List.mem_cons.mp hc with rfl | hc
        · exact h1
        · exact Int.le_trans h1 (g1 c hc)
theorem right_links {E : List LE} {x : Nat → Int} : RightE E x ↔ (∀ v, v < E.length → 0 ≤ x v ∧ x v ≤ 1000) ∧ ∀ l ∈ linksOf E, x l.lo + l.ri ≤ x l.up := by
  constructor
  · rintro ⟨h1, h2, h3⟩
    refine ⟨h1, fun l hl => ?_⟩
    rcases List.mem_append.mp hl with hl | hl
    · obtain ⟨k, hk, rfl⟩ := List.mem_map.mp hl
      have := h2 k (List.mem_range.mp hk)
      show x k + 1 ≤ x (parE E k)
      omega
    · have := (pairs_sorted x _).mp h3 l hl
      rw [pairs_zero E l hl]
      omega
  · rintro ⟨h1, h2⟩
    refine ⟨h1, fun k hk => ?_, (pairs_sorted x _).mpr fun l hl => ?_⟩
    · have := h2 ⟨k, parE E k, 1⟩ (List.mem_append_left _ (List.mem_map.mpr ⟨k, List.mem_range.mpr hk, rfl⟩))
      simp only at this
      omega
    · have := h2 l (List.mem_append_right _ hl)
      rw [pairs_zero E l hl] at this
      omega
theorem sorted_uniq : ∀ {a b : List Int}, a.Perm b → a.Pairwise (· ≤ ·) → b.Pairwise (· ≤ ·) → a = b
  | [], b, p, _, _ => by rw [List.nil_perm.mp p]
  | x :: a, [], p, _, _ => by have := p.length_eq; simp at this
  | x :: a, y :: b, p, h, g => by
    cases h with
    | cons h1 h2 =>
    cases g with
    | cons g1 g2 =>
    have e : x = y := by
      have m1 : x ∈ y :: b := p.mem_iff.mp (by simp)
      have m2 : y ∈ x :: a := p.mem_iff.mpr (by simp)
      have a1 : y ≤ x := by
        rcases List.mem_cons.mp m1 with r | r
        · omega
        · exact g1 x r
      have a2 : x ≤ y := by
        rcases List.mem_cons.mp m2 with r | r
        · omega
        · exact h1 y r
      omega
    subst e
    rw [sorted_uniq ((List.perm_cons x).mp p) h2 g2]
end
end K3
end

section
set_option maxRecDepth 100000
set_option maxHeartbeats 1000000
open Bq L2
/-- one step of a reading; what is left are side goals and places to think -/
local macro_rules | `(tactic| walk_at "g1") => `(tactic| first
  | with_reducible refine' g_seq ?_ | with_reducible refine' g_asg ?_ | with_reducible refine' g_drop ?_ | with_reducible refine' g_ret ?_ | with_reducible refine' g_ifS ?_ | with_reducible refine' g_asgG ?_
  | ((with_reducible refine' g_var ?hv ?_); (case hv => rfl))
  | with_reducible refine' g_c ?_ | with_reducible refine' g_op ?_ | with_reducible refine' g_un ?_ | with_reducible refine' g_I0 ?_ | with_reducible refine' g_U ?_
  | with_reducible refine' g_test ?_ | with_reducible refine' g_tB ?_ | with_reducible refine Exists.intro _ (And.intro rfl ?_) 
  | ((with_reducible refine' g_andP ?ha ?hb ?_); (case ha => intro R q; walk_at "g"; exact q); (case hb => intro R q; walk_at "g"; exact q))
  | ((with_reducible refine' g_orP ?ha ?hb ?_); (case ha => intro R q; walk_at "g"; exact q); (case hb => intro R q; walk_at "g"; exact q))
  | with_reducible refine' g_and ?_ | with_reducible refine' g_or ?_ | with_reducible refine' g_not ?_
  | with_reducible refine' g_andV ?_ | with_reducible refine' g_orV ?_ | with_reducible refine' g_notV ?_ | with_reducible refine' g_if ?_ | with_reducible refine' g_nil ?_ | with_reducible refine' g_cons ?_
  | with_reducible refine' g_tup ?_ | with_reducible refine' g_lst ?_ | with_reducible refine' g_CB ?_ | with_reducible refine' g_Fn ?_ | with_reducible refine' g_next ?_ | with_reducible refine' g_retN ?_
  | with_reducible refine' g_name ?_ | with_reducible refine' g_sub ?_
  | ((with_reducible refine' g_ixL ?hs ?he ?_); (case hs => walk_at "lk"); (case he => walk_at "at"))
  | ((with_reducible refine' g_ixT ?hs ?he ?_); (case hs => walk_at "lk"); (case he => walk_at "at"))
  | ((with_reducible refine' g_setL ?hs ?he ?_); (case hs => walk_at "hp"); (case he => rfl))
  | ((with_reducible refine' g_app ?hs ?hz ?_); (case hs => walk_at "hp"); (case hz => walk_at "sz"))
  | ((with_reducible refine' ⟨_, _, rfl, Or.inl ?hs, ?_⟩); (case hs => walk_at "lk"))
  | ((with_reducible refine' ⟨_, _, rfl, Or.inr ?hs, ?_⟩); (case hs => walk_at "lk"))
  | with_reducible refine' g_BM ?_ | with_reducible refine' g_BM0 ?_ | ((with_reducible refine' g_tyL ?hs ?_); (case hs => walk_at "lk"))
  | with_reducible refine' g_sl ?_ | with_reducible refine' g_noPart ?_ | with_reducible refine' g_part ?_
  | ((with_reducible refine' g_inT ?hs ?fx ?fs ?_); (case hs => walk_at "lk"); (case fx => rfl); (case fs => rfl))
  | with_reducible refine' g_pair ?_ | with_reducible refine' g_pair0 ?_ | with_reducible refine' g_disp ?_
  | with_reducible refine' g_for ?_ | with_reducible refine' g_tupC ?_ | with_reducible refine' g_lstC ?_ | ((with_reducible refine' g_lens ?_)) | with_reducible refine' g_dg ?_ | with_reducible refine' g_lc ?_ | with_reducible refine' g_rng1 ?_ | with_reducible refine' g_ilist ?_ | with_reducible refine' g_itup ?_
  | ((with_reducible refine' ⟨_, _, rfl, ?hd, ?_⟩); (case hd => walk_at "dg"))
  | ((with_reducible refine' g_eqNil ?hs ?hz ?_); (case hs => walk_at "lk"); (case hz => walk_at "lk"))
  | ((with_reducible refine' g_neNil ?hs ?hz ?_); (case hs => walk_at "lk"); (case hz => walk_at "lk"))
  | with_reducible refine Or.inl ⟨_, rfl, ?_⟩
  | with_reducible refine Or.inr ⟨_, rfl, ?_⟩
  | ((with_reducible refine' g_eq ?hs ?_); (case hs => rfl))
  | ((with_reducible refine' g_ne ?hs ?_); (case hs => rfl))
  | ((with_reducible refine' g_I ?hc ?_); (case hc => walk_at "ar")))
/-- arithmetic's side conditions -/
local macro_rules | `(tactic| walk_at "ar") => `(tactic| (first
  | (show (0 : Int) < _; first | omega | decide) | (show (0 : Int) < _ ∧ _; constructor <;> omega) | (show ¬ (_ : Int) = _; omega) | (show (_ : Int) ≠ _ ∧ _; constructor <;> omega)
  | (show (-(2 ^ 64) < _ ∧ _) ∨ _; (first | (left; constructor <;> omega) | (right; constructor <;> omega))) | (show (0 : Int) ≤ _ ∧ _ ∧ _; refine ⟨by omega, by omega, by decide⟩)))
/-- what stands at an index -/
local macro_rules | `(tactic| walk_at "at") => `(tactic| first | rfl | assumption)
/-- what stands at an address -/
local macro_rules | `(tactic| walk_at "hp") => `(tactic| first | assumption | exact upd_same | ((refine' Eq.trans (upd_ne ?hn) ?hm); (case hm => walk_at "hp"); (case hn => walk_at "ne")))
/-- two places are two -/
local macro_rules | `(tactic| walk_at "ne") => `(tactic| first
  | assumption | exact Ne.symm (by assumption)
  | ((refine' ne_of_none ?ha ?hb); (case hb => assumption); (case ha => walk_at "hp")) | ((refine' Ne.symm (ne_of_none ?ha ?hb)); (case hb => assumption); (case ha => walk_at "hp")))
/-- what a dict tells -/
local macro_rules | `(tactic| walk_at "dg") => `(tactic| first | assumption)
/-- a length -/
local macro_rules | `(tactic| walk_at "sz") => `(tactic| first | (show _ ≤ sizeLine; decide) | (show _ < sizeLine; decide) | assumption | exact szlt (by simp) | exact szle (by simp))
/-- a list or tuple that stands -/
local macro_rules | `(tactic| walk_at "lk") => `(tactic| first | assumption | exact SqL.of (by assumption) | exact SqT.of (by assumption) | exact SqL.of upd_same | exact SqT.of upd_same | (refine' FzL.sq ?hm; (case hm => walk_at "fz")))
/-- a list that nobody writes -/
local macro_rules | `(tactic| walk_at "fz") => `(tactic| first | assumption | ((refine' FzL.uw ?hm ?hx); (case hx => walk_at "hp"); (case hm => walk_at "fz")) | ((refine' FzL.nw ?hm ?hx); (case hx => assumption); (case hm => walk_at "fz")))
/-- as far as it goes by itself -/
local macro_rules | `(tactic| walk_at "g") => `(tactic| repeat walk_at "g1")
/-- the body's reading, its places in short -/
local macro_rules | `(tactic| walk_at "go") => `(tactic| ((try dsimp only [cxOf, Cx.nox, Cx.wish]); walk_at "g"))
namespace K3
open PySem PySem.Spec PyProof.Rows L2 Bq
section
variable {P : Program} {w : World} {K : PySem.W.Frag} {mg : Str → Option Value} {base : Heap}
open Fl
/-! ### all stages, tried one by one -/
def entE (E : List LE) (j : Nat) : LE := E.getD j ⟨.int 0, []⟩
def kidsE (E : List LE) (j : Nat) : List Nat := (entE E j).kids
def ldE (E : List LE) (j : Nat) : Bool := loudW (rowW (entE E j).row)
def quE (E : List LE) (j : Nat) : Bool := (kidsE E j).isEmpty && !ldE E j
def mx : List Int → Int
  | [] => 0
  | a :: r => max a (mx r)
theorem mx_pos : ∀ l, 0 ≤ mx l
  | [] => by simp [mx]
  | a :: r => by have := mx_pos r; simp only [mx]; omega
theorem le_mx {a : Int} : ∀ {l : List Int}, a ∈ l → a ≤ mx l
  | b :: r, h => by
    simp only [mx]
    rcases List.mem_cons.mp h with rfl | h
    · omega
    · have := le_mx h; omega
theorem mx_le {m : Int} (h0 : 0 ≤ m) : ∀ {l : List Int}, (∀ a ∈ l, a ≤ m) → mx l ≤ m
  | [], _ => h0
  | b :: r, h => by
    have h1 := h b (by simp)
    have h2 := mx_le h0 (l := r) fun a ha => h a (by simp [ha])
    simp only [mx]; omega
theorem mx_is {m c : Int} {l : List Int} (h0 : 0 ≤ c) (hm : m ∈ c :: l) (ha : ∀ a ∈ c :: l, a ≤ m) : m = max c (mx l) := by
  have h1 := ha c (by simp)
  have h2 : mx l ≤ m := mx_le (by omega) fun a h => ha a (by simp [h])
  rcases List.mem_cons.mp hm with rfl | hm
  · omega
  · have := le_mx hm; omega
def low1 (E : List LE) (s : Nat → Int) (j : Nat) : Int := mx ((kidsE E j).map fun k => 1 + max 0 (s k))
def lowE (E : List LE) (s : Nat → Int) (j : Nat) : Int := if ldE E j = true then max (low1 E s j) (mx (((loudsOf E).filter fun k => decide (k < j)).map s)) else low1 E s j
def triesE (E : List LE) (s : Nat → Int) (j : Nat) : List Int := if quE E j = true then [-1] else if j < E.length - 1 then (List.range 6).map (fun i => lowE E s j + ((i : Nat) : Int)) else [lowE E s j]
def TrE (E : List LE) (s : Nat → Int) (m : Nat) : Prop := ∀ j, j < m → s j ∈ triesE E s j
def stepC (E : List LE) (s : Nat → Int) (j : Nat) : Int := (((kidsE E j).filter fun k => decide (0 ≤ s k)).map fun k => s j - s k - 1).sum
def costE (E : List LE) (s : Nat → Int) (m : Nat) : Int := ((List.range m).map (stepC E s)).sum
def fullE (E : List LE) (s : Nat → Int) (k : Nat) : Int := if k < E.length - 1 ∧ s k < 0 then s (parE E k) - 1 else s k
def fullL (E : List LE) (s : Nat → Int) : List Int := (List.range E.length).map (fullE E s)
section
variable {E : List LE} {s t : Nat → Int} {j k m : Nat}
theorem entE_at (h : j < E.length) : E[j]? = some (entE E j) := by
  unfold entE
  rw [List.getD_eq_getElem?_getD, List.getElem?_eq_getElem h]
  rfl
theorem kids_lt (o : OkLE E) (h : k ∈ kidsE E j) : k < j ∧ j < E.length := by
  by_cases hj : j < E.length
  · have := o.ah j _ (entE_at hj) k h
    exact ⟨by omega, hj⟩
  · unfold kidsE entE at h
    rw [List.getD_eq_getElem?_getD, List.getElem?_eq_none (by omega)] at h
    simp at h
theorem par_kid (o : OkLE E) (h : k ∈ kidsE E j) : parE E k = j := by
  have hj := (kids_lt o h).2
  have := parF_in (i := 0) (f := fun _ => 0) o.nd (entE_at hj) h
  unfold parE; omega
theorem kid_par (o : OkLE E) (h : k < E.length - 1) : k ∈ kidsE E (parE E k) ∧ k < parE E k ∧ parE E k < E.length := by
  obtain ⟨e, h1, h2, h3, h4⟩ := o.par h
  have e1 := entE_at h4
  rw [h1] at e1
  cases e1
  exact ⟨h2, h3, h4⟩
theorem kid_top (o : OkLE E) (h : k ∈ kidsE E j) : k < E.length - 1 := by
  have := kids_lt o h; omega
theorem low_congr (o : OkLE E) (h : ∀ k, k < j → s k = t k) : lowE E s j = lowE E t j := by
  have h1 : low1 E s j = low1 E t j := by
    unfold low1
    congr 1
    refine List.map_congr_left fun k hk => ?_
    rw [h k (kids_lt o hk).1]
  have h2 : ((loudsOf E).filter fun k => decide (k < j)).map s = ((loudsOf E).filter fun k => decide (k < j)).map t := by
    refine List.map_congr_left fun k hk => ?_
    rw [List.mem_filter] at hk
    exact h k (of_decide_eq_true hk.2)
  unfold lowE
  rw [h1, h2]
theorem tries_congr (o : OkLE E) (h : ∀ k, k < j → s k = t k) : triesE E s j = triesE E t j := by
  unfold triesE
  rw [low_congr o h]
theorem tr_congr (o : OkLE E) (h : ∀ k, k < m → s k = t k) (T : TrE E s m) : TrE E t m := fun j hj => by
  rw [← tries_congr o fun k hk => h k (by omega), ← h j hj]
  exact T j hj
theorem step_congr (o : OkLE E) (h : ∀ k, k ≤ j → s k = t k) : stepC E s j = stepC E t j := by
  unfold stepC
  have e : ((kidsE E j).filter fun k => decide (0 ≤ s k)) = (kidsE E j).filter fun k => decide (0 ≤ t k) :=
    List.filter_congr fun k hk => by rw [h k (by have := kids_lt o hk; omega)]
  rw [e]
  congr 1
  refine List.map_congr_left fun k hk => ?_
  rw [List.mem_filter] at hk
  rw [h j (Nat.le_refl _), h k (by have := kids_lt o hk.1; omega)]
theorem cost_congr (o : OkLE E) (h : ∀ k, k < m → s k = t k) : costE E s m = costE E t m := by
  unfold costE
  congr 1
  refine List.map_congr_left fun k hk => ?_
  exact step_congr o fun u hu => h u (by have := List.mem_range.mp hk; omega)
theorem cost_succ (E : List LE) (s : Nat → Int) (m : Nat) : costE E s (m + 1) = costE E s m + stepC E s m := by
  unfold costE
  rw [List.range_succ, List.map_append, List.sum_append]
  simp
theorem full_congr (o : OkLE E) (h : ∀ k, k < E.length → s k = t k) : fullL E s = fullL E t := by
  unfold fullL
  refine List.map_congr_left fun k hk => ?_
  have hk := List.mem_range.mp hk
  unfold fullE
  rw [h k hk]
  by_cases hc : k < E.length - 1 ∧ t k < 0
  · rw [if_pos hc, if_pos hc, h _ (kid_par o hc.1).2.2]
  · rw [if_neg hc, if_neg hc]
theorem low_pos (E : List LE) (s : Nat → Int) (j : Nat) : 0 ≤ lowE E s j := by
  unfold lowE low1
  split
  · have := mx_pos ((kidsE E j).map fun k => 1 + max 0 (s k)); omega
  · exact mx_pos _
theorem low1_le (E : List LE) (s : Nat → Int) (j : Nat) : low1 E s j ≤ lowE E s j := by
  unfold lowE
  split <;> omega
theorem low_kid (h : k ∈ kidsE E j) : 1 + max 0 (s k) ≤ lowE E s j := by
  have h1 : 1 + max 0 (s k) ≤ low1 E s j := le_mx (List.mem_map.mpr ⟨k, h, rfl⟩)
  have := low1_le E s j
  omega
theorem low_loud (hj : ldE E j = true) (hk : k ∈ loudsOf E) (h : k < j) : s k ≤ lowE E s j := by
  have h1 : s k ≤ mx (((loudsOf E).filter fun k => decide (k < j)).map s) := le_mx (List.mem_map.mpr ⟨k, List.mem_filter.mpr ⟨hk, decide_eq_true h⟩, rfl⟩)
  unfold lowE
  rw [if_pos hj]
  omega
theorem tr_low (T : s j ∈ triesE E s j) (q : quE E j = false) : lowE E s j ≤ s j := by
  unfold triesE at T
  rw [if_neg (by rw [q]; exact Bool.false_ne_true)] at T
  split at T
  · obtain ⟨i, _, e⟩ := List.mem_map.mp T
    omega
  · simp at T; omega
theorem tr_qu (T : s j ∈ triesE E s j) (q : quE E j = true) : s j = -1 := by
  unfold triesE at T
  rw [if_pos q] at T
  simpa using T
theorem qu_kids (h : k ∈ kidsE E j) : quE E j = false := by
  unfold quE
  cases e : kidsE E j with
  | nil => rw [e] at h; simp at h
  | cons a r => rfl
theorem qu_loud (h : ldE E j = true) : quE E j = false := by
  unfold quE
  rw [h]; simp
theorem step_pos (T : s j ∈ triesE E s j) : 0 ≤ stepC E s j := by
  unfold stepC
  have : ∀ l : List Nat, (∀ k ∈ l, k ∈ kidsE E j) → 0 ≤ ((l.filter fun k => decide (0 ≤ s k)).map fun k => s j - s k - 1).sum := by
    intro l
    induction l with
    | nil => intro _; simp
    | cons k r ih =>
      intro hl
      have h1 := ih fun u hu => hl u (by simp [hu])
      have hk := hl k (by simp)
      rw [List.filter_cons]
      split
      · rename_i h0
        have h0 := of_decide_eq_true h0
        have h2 := tr_low T (qu_kids hk)
        have h3 := low_kid (s := s) hk
        simp only [List.map_cons, List.sum_cons]
        omega
      · exact h1
  exact this _ fun _ h => h
theorem cost_mono (T : TrE E s m) : ∀ {i : Nat}, i ≤ m → costE E s i ≤ costE E s m := by
  intro i hi
  induction m with
  | zero =>
    have : i = 0 := by omega
    rw [this]; exact Int.le_refl _
  | succ m ih =>
    by_cases e : i = m + 1
    · rw [e]; exact Int.le_refl _
    · have h1 := ih (fun j hj => T j (by omega)) (by omega)
      have h2 := step_pos (T m (by omega))
      rw [cost_succ]; omega
theorem louds_mem (E : List LE) (j : Nat) : j ∈ loudsOf E ↔ j < E.length ∧ ldE E j = true := by
  have gen : ∀ (E : List LE) (i : Nat), j ∈ loudL E i ↔ i ≤ j ∧ j < i + E.length ∧ loudW (rowW (entE E (j - i)).row) = true := by
    intro E
    induction E with
    | nil => intro i; simp [loudL]; omega
    | cons e r ih =>
      intro i
      have hr := ih (i + 1)
      have hd : j = i → entE (e :: r) (j - i) = e := fun h => by subst h; simp [entE]
      have ht : i < j → entE (e :: r) (j - i) = entE r (j - (i + 1)) := fun h => by
        rw [show j - i = (j - (i + 1)) + 1 by omega]; simp [entE]
      simp only [loudL, List.length_cons]
      by_cases hij : j = i
      · rw [hd hij]
        split
        · rename_i h; simp [hij, h]
        · rename_i h
          rw [hr]
          constructor
          · rintro ⟨a, _⟩; omega
          · rintro ⟨_, _, c⟩; exact (h c).elim
      · have e1 : (j ∈ if loudW (rowW e.row) = true then i :: loudL r (i + 1) else loudL r (i + 1)) ↔ j ∈ loudL r (i + 1) := by
          split
          · simp [hij]
          · exact Iff.rfl
        rw [e1, hr]
        constructor
        · rintro ⟨a, b, c⟩
          refine ⟨by omega, by omega, ?_⟩
          rw [ht (by omega)]; exact c
        · rintro ⟨a, b, c⟩
          rw [ht (by omega)] at c
          exact ⟨by omega, by omega, c⟩
  have := gen E 0
  unfold loudsOf ldE
  rw [this]
  simp
/-! ### what is tried is right -/
theorem sum_kids (g : Nat → Int) : ∀ E : List LE, ((kidsAll E).map g).sum = ((List.range E.length).map fun j => ((kidsE E j).map g).sum).sum := by
  intro E
  induction E with
  | nil => simp [kidsAll]
  | cons e r ih =>
    simp only [kidsAll, List.map_append, List.sum_append, List.length_cons, List.range_succ_eq_map, List.map_cons, List.sum_cons, List.map_map]
    rw [ih]
    rfl
def fl0 (E : List LE) (s : Nat → Int) (v : Nat) : Int := if v < E.length then fullE E s v else 0
theorem full_kids (o : OkLE E) (T : TrE E s E.length) (h : k ∈ kidsE E j) : fullE E s j = s j ∧ 0 ≤ s j := by
  have h1 := (kids_lt o h).2
  have h2 := tr_low (T j h1) (qu_kids h)
  have h3 := low_pos E s j
  refine ⟨?_, by omega⟩
  unfold fullE
  rw [if_neg (by omega)]
theorem full_link (o : OkLE E) (T : TrE E s E.length) (h : k ∈ kidsE E j) : 0 ≤ fullE E s k ∧ fullE E s k + 1 ≤ fullE E s j ∧ fullE E s j - fullE E s k - 1 = if 0 ≤ s k then s j - s k - 1 else 0 := by
  obtain ⟨h1, h2⟩ := full_kids o T h
  have h3 := (kids_lt o h).2
  have h4 := tr_low (T j h3) (qu_kids h)
  have h5 := low_kid (s := s) h
  have h6 := kid_top o h
  have h7 := par_kid o h
  rw [h1]
  unfold fullE
  by_cases hs : s k < 0
  · rw [if_pos ⟨h6, hs⟩, h7, if_neg (by omega)]; omega
  · rw [if_neg (by omega), if_pos (by omega)]; omega
theorem full_turns (o : OkLE E) (T : TrE E s E.length) : turnsE E (fl0 E s) = costE E s E.length := by
  rw [← kids_turns o, sum_kids]
  unfold costE
  congr 1
  refine List.map_congr_left fun j hj => ?_
  have hj := List.mem_range.mp hj
  unfold stepC
  have : ∀ l : List Nat, (∀ k ∈ l, k ∈ kidsE E j) → (l.map fun k => fl0 E s (parE E k) - fl0 E s k - 1).sum = ((l.filter fun k => decide (0 ≤ s k)).map fun k => s j - s k - 1).sum := by
    intro l
    induction l with
    | nil => intro _; simp
    | cons k r ih =>
      intro hl
      have h1 := ih fun u hu => hl u (by simp [hu])
      have hk := hl k (by simp)
      obtain ⟨_, _, h4⟩ := full_link o T hk
      have h5 := kids_lt o hk
      have e : fl0 E s (parE E k) - fl0 E s k - 1 = if 0 ≤ s k then s j - s k - 1 else 0 := by
        rw [par_kid o hk]
        unfold fl0
        rw [if_pos h5.2, if_pos (by omega)]
        exact h4
      rw [List.map_cons, List.sum_cons, h1, e, List.filter_cons]
      by_cases h0 : 0 ≤ s k
      · rw [if_pos h0, if_pos (decide_eq_true h0)]; simp
      · rw [if_neg h0, if_neg (by simpa using h0)]; simp
  exact this _ fun _ h => h
theorem full_loud (o : OkLE E) (T : TrE E s E.length) (h : j ∈ loudsOf E) : fullE E s j = s j ∧ 0 ≤ s j := by
  obtain ⟨h1, h2⟩ := (louds_mem E j).mp h
  have h3 := tr_low (T j h1) (qu_loud h2)
  have h4 := low_pos E s j
  refine ⟨?_, by omega⟩
  unfold fullE
  rw [if_neg (by omega)]
theorem pairsL_lo : ∀ {l : List Nat} {x : Lnk}, x ∈ pairsL l → x.lo ∈ l
  | a :: b :: r, x, hx => by
    simp only [pairsL, List.mem_cons] at hx
    rcases hx with rfl | hx
    · simp
    · have := pairsL_lo (l := b :: r) hx
      exact List.mem_cons_of_mem _ this
theorem full_right (o : OkLE E) (kd : ∃ k, k ∈ kidsE E (E.length - 1)) (T : TrE E s E.length) : (∀ v, 0 ≤ fl0 E s v) ∧ ∀ l ∈ linksOf E, fl0 E s l.lo + l.ri ≤ fl0 E s l.up := by
  have n1 := o.n1
  have last : ∀ v, v < E.length → 0 ≤ fullE E s v := fun v hv => by
    by_cases h : v < E.length - 1
    · exact (full_link o T (kid_par o h).1).1
    · obtain rfl : v = E.length - 1 := by omega
      obtain ⟨k, hk⟩ := kd
      have := full_kids o T hk
      omega
  refine ⟨fun v => ?_, fun l hl => ?_⟩
  · unfold fl0
    split
    · rename_i h; exact last v h
    · omega
  · rcases List.mem_append.mp hl with hl | hl
    · obtain ⟨k, hk, rfl⟩ := List.mem_map.mp hl
      have hk := List.mem_range.mp hk
      obtain ⟨h1, h2, h3⟩ := kid_par o hk
      have h4 := (full_link o T h1).2.1
      show fl0 E s k + 1 ≤ fl0 E s (parE E k)
      unfold fl0
      rw [if_pos (by omega), if_pos h3]
      exact h4
    · obtain ⟨h1, h2, h3⟩ := pairsL_mem (loudL_up E 0) hl
      have h4 := pairsL_lo hl
      have a1 := full_loud o T h4
      have a2 := full_loud o T h2
      have b1 := (louds_mem E _).mp h4
      have b2 := (louds_mem E _).mp h2
      have c := tr_low (T l.up b2.1) (qu_loud b2.2)
      have d := low_loud (s := s) b2.2 h4 h1
      rw [h3]
      unfold fl0
      rw [if_pos b1.1, if_pos b2.1, a1.1, a2.1]
      omega
/-! ### the least is among what is tried -/
theorem sum_le {f g : Nat → Int} : ∀ {l : List Nat}, (∀ k ∈ l, f k ≤ g k) → (l.map f).sum ≤ (l.map g).sum
  | [], _ => by simp
  | a :: r, h => by
    have h1 := h a (by simp)
    have h2 := sum_le (f := f) (g := g) (l := r) fun k hk => h k (by simp [hk])
    simp only [List.map_cons, List.sum_cons]; omega
theorem sum_lt {f g : Nat → Int} {k : Nat} : ∀ {l : List Nat}, (∀ k ∈ l, f k ≤ g k) → k ∈ l → f k < g k → (l.map f).sum < (l.map g).sum
  | [], _, h, _ => by simp at h
  | a :: r, h, hk, hl => by
    have h1 := h a (by simp)
    have h2 := sum_le (f := f) (g := g) (l := r) fun k hk => h k (by simp [hk])
    simp only [List.map_cons, List.sum_cons]
    rcases List.mem_cons.mp hk with rfl | hk
    · omega
    · have := sum_lt (l := r) (fun k hk => h k (by simp [hk])) hk hl
      omega
theorem turns_le {h x : Nat → Int} (H : ∀ k, k < E.length - 1 → x (parE E k) - x k ≤ h (parE E k) - h k) : turnsE E x ≤ turnsE E h := by
  unfold turnsE
  exact sum_le fun k hk => by have := H k (List.mem_range.mp hk); omega
theorem turns_lt {h x : Nat → Int} {k : Nat} (H : ∀ k, k < E.length - 1 → x (parE E k) - x k ≤ h (parE E k) - h k) (hk : k < E.length - 1) (hl : x (parE E k) - x k < h (parE E k) - h k) : turnsE E x < turnsE E h := by
  unfold turnsE
  exact sum_lt (k := k) (fun k hk => by have := H k (List.mem_range.mp hk); omega) (List.mem_range.mpr hk) (by omega)
theorem links_mem (o : OkLE E) {x : Nat → Int} (h1 : ∀ k, k < E.length - 1 → x k + 1 ≤ x (parE E k)) (h2 : ∀ a b, a ∈ loudsOf E → b ∈ loudsOf E → a < b → x a ≤ x b) : ∀ l ∈ linksOf E, x l.lo + l.ri ≤ x l.up := by
  intro l hl
  rcases List.mem_append.mp hl with hl | hl
  · obtain ⟨k, hk, rfl⟩ := List.mem_map.mp hl
    exact h1 k (List.mem_range.mp hk)
  · obtain ⟨a, b, c⟩ := pairsL_mem (loudL_up E 0) hl
    have := h2 _ _ (pairsL_lo hl) b a
    rw [c]; omega
theorem link_par {h : Nat → Int} (H : ∀ l ∈ linksOf E, h l.lo + l.ri ≤ h l.up) (hk : k < E.length - 1) : h k + 1 ≤ h (parE E k) :=
  H ⟨k, parE E k, 1⟩ (List.mem_append_left _ (List.mem_map.mpr ⟨k, List.mem_range.mpr hk, rfl⟩))
theorem link_loud {h : Nat → Int} (H : ∀ l ∈ linksOf E, h l.lo + l.ri ≤ h l.up) {a b : Nat} (ha : a ∈ loudsOf E) (hb : b ∈ loudsOf E) (hab : a < b) : h a ≤ h b := by
  have p1 : ((loudsOf E).map h).Pairwise (· ≤ ·) := (pairs_sorted h _).mpr fun l hl => by
    have := H l (List.mem_append_right _ hl)
    rw [pairs_zero E l hl] at this
    omega
  rw [List.pairwise_map] at p1
  have p2 : (loudsOf E).Pairwise (· < ·) := loudL_up E 0
  have : ∀ l : List Nat, l.Pairwise (fun a b => h a ≤ h b) → l.Pairwise (· < ·) → a ∈ l → b ∈ l → h a ≤ h b := by
    intro l
    induction l with
    | nil => intro _ _ z; simp at z
    | cons c r ih =>
      intro q1 q2 m1 m2
      cases q1 with
      | cons u1 u2 =>
      cases q2 with
      | cons v1 v2 =>
      rcases List.mem_cons.mp m1 with rfl | m3
      · rcases List.mem_cons.mp m2 with rfl | m4
        · omega
        · exact u1 b m4
      · rcases List.mem_cons.mp m2 with rfl | m4
        · have := v1 a m3; omega
        · exact ih u2 v2 m3 m4
  exact this _ p1 p2 ha hb
section
variable {h : Nat → Int} {fs : List Int}
theorem best_tn {x : Nat → Int} (b : Best (linksOf E) fs h) (r : ∀ l ∈ linksOf E, x l.lo + l.ri ≤ x l.up) : turnsE E h ≤ turnsE E x := by
  have h1 := b.best r
  rw [span_turns, span_turns] at h1
  omega
theorem best_ls {x : Nat → Int} (b : Best (linksOf E) fs h) (p : ∀ v, 0 ≤ x v) (r : ∀ l ∈ linksOf E, x l.lo + l.ri ≤ x l.up) (t : turnsE E x ≤ turnsE E h) (v : Nat) : h v ≤ x v :=
  b.least p r (by rw [span_turns, span_turns]; omega) v
/-- what is quiet and has nothing within stands straight ahead -/
theorem best_quiet (o : OkLE E) (b : Best (linksOf E) fs h) (hk : k < E.length - 1) (q : quE E k = true) : h (parE E k) = h k + 1 := by
  have h1 := link_par b.fe hk
  by_cases e : h (parE E k) = h k + 1
  · exact e
  · exfalso
    have nk : ∀ u, u < E.length - 1 → parE E u ≠ k := fun u hu z => by
      have := (kid_par o hu).1
      rw [z] at this
      rw [qu_kids this] at q
      cases q
    have nl : k ∉ loudsOf E := fun z => by
      rw [qu_loud ((louds_mem E k).mp z).2] at q
      cases q
    have r : ∀ l ∈ linksOf E, fupd h k (h k + 1) l.lo + l.ri ≤ fupd h k (h k + 1) l.up := links_mem o (fun u hu => by
      rw [fupd_ne (nk u hu)]
      by_cases e : u = k
      · subst e; rw [fupd_same]; omega
      · rw [fupd_ne e]; exact link_par b.fe hu) fun a c ha hc hac => by
        rw [fupd_ne (fun z => nl (by rw [← z]; exact ha)), fupd_ne (fun z => nl (by rw [← z]; exact hc))]
        exact link_loud b.fe ha hc hac
    have t : turnsE E (fupd h k (h k + 1)) < turnsE E h := turns_lt (k := k) (fun u hu => by
      rw [fupd_ne (nk u hu)]
      by_cases e : u = k
      · subst e; rw [fupd_same]; omega
      · rw [fupd_ne e]; omega) hk (by rw [fupd_ne (nk k hk), fupd_same]; omega)
    have := best_tn b r
    omega
/-- no number is left out below -/
theorem best_gap (o : OkLE E) (b : Best (linksOf E) fs h) {g : Int} (g1 : 1 ≤ g) (no : ∀ v, v < E.length → quE E v = false → h v ≠ g) {v : Nat} (hv : v < E.length) (q : quE E v = false) : h v < g := by
  apply Classical.byContradiction
  intro hn
  let lw : Nat → Bool := fun v => if quE E v = true then decide (v < E.length ∧ g ≤ h v) else decide (v < E.length ∧ g < h v)
  let x : Nat → Int := fun v => if lw v = true then h v - 1 else h v
  have hlw : ∀ v, lw v = true → v < E.length ∧ g ≤ h v := fun v hv => by
    show _
    simp only [lw] at hv
    split at hv
    · exact of_decide_eq_true hv
    · have := of_decide_eq_true hv; omega
  have tried : ∀ v, v < E.length → quE E v = false → (lw v = true ↔ g < h v) := fun v h1 h2 => by
    simp only [lw]
    rw [if_neg (by rw [h2]; exact Bool.false_ne_true), decide_eq_true_iff]
    exact ⟨fun z => z.2, fun z => ⟨h1, z⟩⟩
  have quiet : ∀ v, v < E.length → quE E v = true → (lw v = true ↔ g ≤ h v) := fun v h1 h2 => by
    simp only [lw]
    rw [if_pos h2, decide_eq_true_iff]
    exact ⟨fun z => z.2, fun z => ⟨h1, z⟩⟩
  have par : ∀ k, k < E.length - 1 → x k + 1 ≤ x (parE E k) ∧ x (parE E k) - x k ≤ h (parE E k) - h k := fun k hk => by
    obtain ⟨a1, a2, a3⟩ := kid_par o hk
    have qp := qu_kids a1
    have tp := tried _ a3 qp
    have l1 := link_par b.fe hk
    have np := no _ a3 qp
    simp only [x]
    cases qk : quE E k with
    | true =>
      have e := best_quiet o b hk qk
      have tk := quiet k (by omega) qk
      by_cases c : g ≤ h k
      · rw [if_pos (tk.mpr c), if_pos (tp.mpr (by omega))]; omega
      · rw [if_neg (fun z => c (tk.mp z)), if_neg (fun z => by have := tp.mp z; omega)]; omega
    | false =>
      have tk := tried k (by omega) qk
      have nk := no k (by omega) qk
      by_cases c : g < h k
      · rw [if_pos (tk.mpr c), if_pos (tp.mpr (by omega))]; omega
      · rw [if_neg (fun z => c (tk.mp z))]
        by_cases d : g < h (parE E k)
        · rw [if_pos (tp.mpr d)]; omega
        · rw [if_neg (fun z => d (tp.mp z))]; omega
  have r : ∀ l ∈ linksOf E, x l.lo + l.ri ≤ x l.up := links_mem o (fun k hk => (par k hk).1) fun a c ha hc hac => by
    have l1 := link_loud b.fe ha hc hac
    have ma := (louds_mem E a).mp ha
    have mc := (louds_mem E c).mp hc
    have ta := tried a ma.1 (qu_loud ma.2)
    have tc := tried c mc.1 (qu_loud mc.2)
    simp only [x]
    by_cases d : g < h c
    · rw [if_pos (tc.mpr d)]
      by_cases e : g < h a
      · rw [if_pos (ta.mpr e)]; omega
      · rw [if_neg (fun z => e (ta.mp z))]; omega
    · rw [if_neg (fun z => d (tc.mp z)), if_neg (fun z => by have := ta.mp z; omega)]; omega
  have p : ∀ v, 0 ≤ x v := fun v => by
    have := b.pos v
    simp only [x]
    split
    · rename_i z; have := hlw v z; omega
    · omega
  have t := best_ls b p r (turns_le fun k hk => (par k hk).2) v
  have nv := no v hv q
  have : lw v = true := (tried v hv q).mpr (by omega)
  simp only [x] at t
  rw [if_pos this] at t
  omega
def triedL (E : List LE) : List Nat := (List.range E.length).filter fun j => !quE E j
structure Few (E : List LE) : Prop where
  o : OkLE E
  kd : ∃ k, k ∈ kidsE E (E.length - 1)
  nl : ldE E (E.length - 1) = false
  six : (triedL E).length ≤ 6
theorem Few.top (F : Few E) : quE E (E.length - 1) = false := by
  obtain ⟨k, hk⟩ := F.kd
  exact qu_kids hk
theorem below_top (o : OkLE E) (b : Best (linksOf E) fs h) : ∀ d k, E.length - 1 - k = d → k < E.length - 1 → h k < h (E.length - 1) := by
  intro d
  induction d using Nat.strongRecOn with
  | ind d ih =>
    intro k hd hk
    obtain ⟨_, a2, a3⟩ := kid_par o hk
    have l1 := link_par b.fe hk
    by_cases e : parE E k = E.length - 1
    · rw [e] at l1; omega
    · have := ih (E.length - 1 - parE E k) (by omega) _ rfl (by omega)
      omega
theorem best_top6 (F : Few E) (b : Best (linksOf E) fs h) : h (E.length - 1) ≤ 6 := by
  have n1 := F.o.n1
  have p := b.pos (E.length - 1)
  have := pigeon (triedL E).length (h (E.length - 1)).toNat (fun i => (h ((triedL E).getD i 0) - 1).toNat) (fun g hg => by
    have : ∃ v, v < E.length ∧ quE E v = false ∧ h v = (g : Int) + 1 := by
      apply Classical.byContradiction
      intro hn
      have gap := best_gap F.o b (g := (g : Int) + 1) (by omega) (fun v hv q e => hn ⟨v, hv, q, e⟩) (v := E.length - 1) (by omega) F.top
      omega
    obtain ⟨v, hv, q, e⟩ := this
    have hm : v ∈ triedL E := List.mem_filter.mpr ⟨List.mem_range.mpr hv, by rw [q]; rfl⟩
    obtain ⟨i, hi, hie⟩ := List.mem_iff_getElem.mp hm
    refine ⟨i, hi, ?_⟩
    show (h ((triedL E).getD i 0) - 1).toNat = g
    rw [List.getD_eq_getElem?_getD, List.getElem?_eq_getElem hi, hie]
    show (h v - 1).toNat = g
    omega)
  have := F.six
  omega
def trS (E : List LE) (h : Nat → Int) (j : Nat) : Int := if quE E j = true then -1 else h j
theorem low1_h (F : Few E) (b : Best (linksOf E) fs h) {j : Nat} : low1 E (trS E h) j ≤ h j := by
  unfold low1
  refine mx_le (b.pos j) fun a ha => ?_
  obtain ⟨k, hk, rfl⟩ := List.mem_map.mp ha
  have l1 := link_par b.fe (kid_top F.o hk)
  rw [par_kid F.o hk] at l1
  have := b.pos k
  unfold trS
  split <;> omega
theorem low_h (F : Few E) (b : Best (linksOf E) fs h) {j : Nat} (hj : j < E.length) : lowE E (trS E h) j ≤ h j := by
  have h1 := low1_h F b (j := j)
  unfold lowE
  split
  · rename_i l
    have : mx (((loudsOf E).filter fun k => decide (k < j)).map (trS E h)) ≤ h j := by
      refine mx_le (b.pos j) fun a ha => ?_
      obtain ⟨k, hk, rfl⟩ := List.mem_map.mp ha
      rw [List.mem_filter] at hk
      have hkj := of_decide_eq_true hk.2
      have := link_loud b.fe hk.1 ((louds_mem E j).mpr ⟨hj, l⟩) hkj
      unfold trS
      have := b.pos j
      split <;> omega
    omega
  · exact h1
theorem top_low (F : Few E) (b : Best (linksOf E) fs h) : h (E.length - 1) = lowE E (trS E h) (E.length - 1) := by
  have n1 := F.o.n1
  have h1 := low_h F b (j := E.length - 1) (by omega)
  have e : lowE E (trS E h) (E.length - 1) = low1 E (trS E h) (E.length - 1) := by
    unfold lowE
    rw [if_neg (by rw [F.nl]; exact Bool.false_ne_true)]
  by_cases hlt : lowE E (trS E h) (E.length - 1) < h (E.length - 1)
  · exfalso
    obtain ⟨k0, hk0⟩ := F.kd
    have L1 : 1 ≤ lowE E (trS E h) (E.length - 1) := by
      have := low_kid (s := trS E h) hk0
      omega
    let lw : Nat → Bool := fun v => decide (v = E.length - 1 ∨ (v ∈ kidsE E (E.length - 1) ∧ quE E v = true))
    let x : Nat → Int := fun v => if lw v = true then h v - 1 else h v
    have hlw : ∀ v, lw v = true ↔ (v = E.length - 1 ∨ (v ∈ kidsE E (E.length - 1) ∧ quE E v = true)) := fun v => by
      simp only [lw]; rw [decide_eq_true_iff]
    have qk : ∀ k, k ∈ kidsE E (E.length - 1) → quE E k = true → h k = h (E.length - 1) - 1 := fun k hk q => by
      have := best_quiet F.o b (kid_top F.o hk) q
      rw [par_kid F.o hk] at this
      omega
    have p : ∀ v, 0 ≤ x v := fun v => by
      have := b.pos v
      simp only [x]
      split
      · rename_i z
        rcases (hlw v).mp z with e | ⟨z1, z2⟩
        · rw [e]; omega
        · have := qk v z1 z2; omega
      · omega
    have par : ∀ k, k < E.length - 1 → x k + 1 ≤ x (parE E k) ∧ x (parE E k) - x k ≤ h (parE E k) - h k := fun k hk => by
      obtain ⟨a1, a2, a3⟩ := kid_par F.o hk
      have l1 := link_par b.fe hk
      have np : lw (parE E k) = true ↔ parE E k = E.length - 1 := by
        rw [hlw]
        refine ⟨fun z => ?_, fun z => .inl z⟩
        rcases z with z | ⟨_, z⟩
        · exact z
        · rw [qu_kids a1] at z; cases z
      simp only [x]
      by_cases c : parE E k = E.length - 1
      · rw [c] at a1 l1 ⊢
        have t1 : lw (E.length - 1) = true := (hlw _).mpr (.inl rfl)
        rw [if_pos t1]
        cases q : quE E k with
        | true =>
          rw [if_pos ((hlw k).mpr (.inr ⟨a1, q⟩))]; omega
        | false =>
          rw [if_neg (fun z => by
            rcases (hlw k).mp z with e | ⟨_, e⟩
            · omega
            · rw [q] at e; cases e)]
          have := low_kid (s := trS E h) a1
          unfold trS at this
          rw [q, if_neg Bool.false_ne_true] at this
          have e2 : lowE E (trS E h) (E.length - 1) = lowE E (fun j => if quE E j = true then -1 else h j) (E.length - 1) := rfl
          have e3 := b.pos k
          have e4 : lowE E (fun j => if quE E j = true then -1 else h j) (E.length - 1) < h (E.length - 1) := hlt
          refine ⟨?_, by omega⟩
          have e5 : max 0 (h k) = h k := by omega
          have e6 : 1 + max 0 (h k) ≤ lowE E (trS E h) (E.length - 1) := by
            have := low_kid (s := trS E h) a1
            have e7 : trS E h k = h k := by unfold trS; rw [q, if_neg Bool.false_ne_true]
            rw [e7] at this
            exact this
          omega
      · have t1 : ¬ lw (parE E k) = true := fun z => c (np.mp z)
        have t2 : ¬ lw k = true := fun z => by
          rcases (hlw k).mp z with e | ⟨e, _⟩
          · omega
          · exact c (par_kid F.o e)
        rw [if_neg t1, if_neg t2]
        omega
    have r : ∀ l ∈ linksOf E, x l.lo + l.ri ≤ x l.up := links_mem F.o (fun k hk => (par k hk).1) fun a c ha hc hac => by
      have l1 := link_loud b.fe ha hc hac
      have n : ∀ a, a ∈ loudsOf E → ¬ lw a = true := fun a ha z => by
        have ma := (louds_mem E a).mp ha
        rcases (hlw a).mp z with e | ⟨_, e⟩
        · rw [e, F.nl] at ma; cases ma.2
        · rw [qu_loud ma.2] at e; cases e
      simp only [x]
      rw [if_neg (n a ha), if_neg (n c hc)]
      exact l1
    have t := best_ls b p r (turns_le fun k hk => (par k hk).2) (E.length - 1)
    simp only [x] at t
    rw [if_pos ((hlw _).mpr (.inl rfl))] at t
    omega
  · omega
theorem tr_h (F : Few E) (b : Best (linksOf E) fs h) : TrE E (trS E h) E.length := by
  intro j hj
  have n1 := F.o.n1
  cases q : quE E j with
  | true =>
    unfold triesE trS
    rw [if_pos q, if_pos q]
    simp
  | false =>
    have e : trS E h j = h j := by unfold trS; rw [if_neg (by rw [q]; exact Bool.false_ne_true)]
    have l1 := low_h F b hj
    have l0 := low_pos E (trS E h) j
    rw [e]
    unfold triesE
    rw [if_neg (by rw [q]; exact Bool.false_ne_true)]
    split
    · rename_i c
      have t6 := best_top6 F b
      have bt := below_top F.o b _ j rfl c
      refine List.mem_map.mpr ⟨(h j - lowE E (trS E h) j).toNat, List.mem_range.mpr (by omega), by omega⟩
    · have : j = E.length - 1 := by omega
      rw [this, ← top_low F b]
      simp
theorem full_h (F : Few E) (b : Best (linksOf E) fs h) (hk : k < E.length) : fullE E (trS E h) k = h k := by
  unfold fullE
  cases q : quE E k with
  | true =>
    have e : trS E h k = -1 := by unfold trS; rw [if_pos q]
    have hk' : k < E.length - 1 := by
      by_cases c : k = E.length - 1
      · rw [c, F.top] at q; cases q
      · omega
    rw [if_pos ⟨hk', by omega⟩]
    have a1 := (kid_par F.o hk').1
    have e2 : trS E h (parE E k) = h (parE E k) := by unfold trS; rw [if_neg (by rw [qu_kids a1]; exact Bool.false_ne_true)]
    rw [e2, best_quiet F.o b hk' q]
    omega
  | false =>
    have e : trS E h k = h k := by unfold trS; rw [if_neg (by rw [q]; exact Bool.false_ne_true)]
    have := b.pos k
    rw [if_neg (by omega), e]
theorem fullL_h (F : Few E) (b : Best (linksOf E) fs h) : fullL E (trS E h) = (List.range E.length).map h := by
  unfold fullL
  exact List.map_congr_left fun k hk => full_h F b (List.mem_range.mp hk)
theorem turns_congr (o : OkLE E) {x y : Nat → Int} (H : ∀ k, k < E.length → x k = y k) : turnsE E x = turnsE E y := by
  unfold turnsE
  congr 1
  refine List.map_congr_left fun k hk => ?_
  have hk := List.mem_range.mp hk
  rw [H _ (kid_par o hk).2.2, H k (by omega)]
theorem cost_h (F : Few E) (b : Best (linksOf E) fs h) : costE E (trS E h) E.length = turnsE E h := by
  rw [← full_turns F.o (tr_h F b)]
  refine turns_congr F.o fun k hk => ?_
  unfold fl0
  rw [if_pos hk, full_h F b hk]
end
/-! ### what has been found so far -/
def Cov (E : List LE) (B : Option Int) (F : List (List Int)) (s : Nat → Int) : Prop := ∃ b, B = some b ∧ b ≤ costE E s E.length ∧ (b = costE E s E.length → fullL E s ∈ F)
structure Sound (E : List LE) (B : Option Int) (F : List (List Int)) : Prop where
  re : ∀ f ∈ F, ∃ s, TrE E s E.length ∧ f = fullL E s ∧ B = some (costE E s E.length)
  ne : ∀ b, B = some b → F ≠ []
theorem sound_none : Sound E none [] := ⟨fun f h => by simp at h, fun b h => by cases h⟩
theorem Sound.nil {F : List (List Int)} (S : Sound E none F) : F = [] := by
  cases F with
  | nil => rfl
  | cons f r => obtain ⟨s, _, _, e⟩ := S.re f (by simp); cases e
structure RelE (E : List LE) (s : Nat → Int) (i : Nat) (B : Option Int) (F : List (List Int)) (B' : Option Int) (F' : List (List Int)) : Prop where
  snd : Sound E B' F'
  mono : ∀ t, Cov E B F t → Cov E B' F' t
  cov : ∀ t, TrE E t E.length → (∀ k, k < i → t k = s k) → Cov E B' F' t
def metB (E : List LE) (s : Nat → Int) : Option Int := some (costE E s E.length)
def metR (E : List LE) (s : Nat → Int) (B : Option Int) : Bool := match B with | none => true | some b => decide (costE E s E.length < b)
theorem met_rel {B : Option Int} {F : List (List Int)} (o : OkLE E) (T : TrE E s E.length) (S : Sound E B F) (le : ∀ b, B = some b → costE E s E.length ≤ b) :
    RelE E s E.length B F (metB E s) ((if metR E s B = true then [] else F) ++ [fullL E s]) := by
  refine ⟨⟨fun f hf => ?_, fun b hb => by simp⟩, fun t ht => ?_, fun t Tt ht => ?_⟩
  · rcases List.mem_append.mp hf with hf | hf
    · split at hf
      · simp at hf
      · rename_i c
        obtain ⟨u, h1, h2, h3⟩ := S.re f hf
        refine ⟨u, h1, h2, ?_⟩
        subst h3
        have := le _ rfl
        simp only [metR] at c
        simp at c
        unfold metB
        rw [show costE E s E.length = costE E u E.length by omega]
    · simp at hf
      exact ⟨s, T, hf, rfl⟩
  · obtain ⟨b, rfl, h1, h2⟩ := ht
    have h3 := le b rfl
    refine ⟨_, rfl, by omega, fun e => ?_⟩
    have e2 : b = costE E t E.length := by omega
    have h4 := h2 e2
    rw [if_neg (by simp only [metR]; simp; omega)]
    exact List.mem_append_left _ h4
  · have e1 := cost_congr (m := E.length) o ht
    have e2 := full_congr o ht
    exact ⟨_, rfl, by omega, fun _ => by rw [e2]; simp⟩
theorem search_best {h : Nat → Int} {fs : List Int} {B : Option Int} {F : List (List Int)} (W : Few E) (b : Best (linksOf E) fs h) (S : Sound E B F) (C : ∀ s, TrE E s E.length → Cov E B F s) :
    B = some (turnsE E h) ∧ (List.range E.length).map h ∈ F ∧ ∀ f ∈ F, ∃ x : Nat → Int, f = (List.range E.length).map x ∧ ∀ v, v < E.length → h v ≤ x v := by
  obtain ⟨c, rfl, h1, h2⟩ := C _ (tr_h W b)
  rw [cost_h W b] at h1 h2
  have tl : ∀ s, TrE E s E.length → turnsE E h ≤ costE E s E.length := fun s T => by
    have r := full_right W.o W.kd T
    have := best_tn b r.2
    rw [full_turns W.o T] at this
    exact this
  have e : c = turnsE E h := by
    cases F with
    | nil => exact absurd rfl (S.ne c rfl)
    | cons f r =>
      obtain ⟨s, T, _, e⟩ := S.re f (by simp)
      cases e
      have := tl s T
      omega
  refine ⟨by rw [e], by rw [← fullL_h W b]; exact h2 e, fun f hf => ?_⟩
  obtain ⟨s, T, rfl, e2⟩ := S.re f hf
  cases e2
  have r := full_right W.o W.kd T
  refine ⟨fullE E s, rfl, fun v hv => ?_⟩
  have := best_ls b r.1 r.2 (by rw [full_turns W.o T]; omega) v
  unfold fl0 at this
  rw [if_pos hv] at this
  exact this
end
end
end K3
end

section
set_option maxRecDepth 100000
set_option maxHeartbeats 1000000
open Bq L2
/-- one step of a reading; what is left are side goals and places to think -/
local macro_rules | `(tactic| walk_at "g1") => `(tactic| first
  | with_reducible refine' g_seq ?_ | with_reducible refine' g_asg ?_ | with_reducible refine' g_drop ?_ | with_reducible refine' g_ret ?_ | with_reducible refine' g_ifS ?_ | with_reducible refine' g_asgG ?_
  | ((with_reducible refine' g_var ?hv ?_); (case hv => rfl))
  | with_reducible refine' g_c ?_ | with_reducible refine' g_op ?_ | with_reducible refine' g_un ?_ | with_reducible refine' g_I0 ?_ | with_reducible refine' g_U ?_
  | with_reducible refine' g_test ?_ | with_reducible refine' g_tB ?_ | with_reducible refine Exists.intro _ (And.intro rfl ?_) 
  | ((with_reducible refine' g_andP ?ha ?hb ?_); (case ha => intro R q; walk_at "g"; exact q); (case hb => intro R q; walk_at "g"; exact q))
  | ((with_reducible refine' g_orP ?ha ?hb ?_); (case ha => intro R q; walk_at "g"; exact q); (case hb => intro R q; walk_at "g"; exact q))
  | with_reducible refine' g_and ?_ | with_reducible refine' g_or ?_ | with_reducible refine' g_not ?_
  | with_reducible refine' g_andV ?_ | with_reducible refine' g_orV ?_ | with_reducible refine' g_notV ?_ | with_reducible refine' g_if ?_ | with_reducible refine' g_nil ?_ | with_reducible refine' g_cons ?_
  | with_reducible refine' g_tup ?_ | with_reducible refine' g_lst ?_ | with_reducible refine' g_CB ?_ | with_reducible refine' g_Fn ?_ | with_reducible refine' g_next ?_ | with_reducible refine' g_retN ?_
  | with_reducible refine' g_name ?_ | with_reducible refine' g_sub ?_
  | ((with_reducible refine' g_ixL ?hs ?he ?_); (case hs => walk_at "lk"); (case he => walk_at "at"))
  | ((with_reducible refine' g_ixT ?hs ?he ?_); (case hs => walk_at "lk"); (case he => walk_at "at"))
  | ((with_reducible refine' g_setL ?hs ?he ?_); (case hs => walk_at "hp"); (case he => rfl))
  | ((with_reducible refine' g_app ?hs ?hz ?_); (case hs => walk_at "hp"); (case hz => walk_at "sz"))
  | ((with_reducible refine' ⟨_, _, rfl, Or.inl ?hs, ?_⟩); (case hs => walk_at "lk"))
  | ((with_reducible refine' ⟨_, _, rfl, Or.inr ?hs, ?_⟩); (case hs => walk_at "lk"))
  | with_reducible refine' g_BM ?_ | with_reducible refine' g_BM0 ?_ | ((with_reducible refine' g_tyL ?hs ?_); (case hs => walk_at "lk"))
  | with_reducible refine' g_sl ?_ | with_reducible refine' g_noPart ?_ | with_reducible refine' g_part ?_
  | ((with_reducible refine' g_inT ?hs ?fx ?fs ?_); (case hs => walk_at "lk"); (case fx => rfl); (case fs => rfl))
  | with_reducible refine' g_pair ?_ | with_reducible refine' g_pair0 ?_ | with_reducible refine' g_disp ?_
  | with_reducible refine' g_for ?_ | with_reducible refine' g_tupC ?_ | with_reducible refine' g_lstC ?_ | ((with_reducible refine' g_lens ?_)) | with_reducible refine' g_dg ?_ | with_reducible refine' g_lc ?_ | with_reducible refine' g_rng1 ?_ | with_reducible refine' g_ilist ?_ | with_reducible refine' g_itup ?_
  | ((with_reducible refine' ⟨_, _, rfl, ?hd, ?_⟩); (case hd => walk_at "dg"))
  | ((with_reducible refine' g_eqNil ?hs ?hz ?_); (case hs => walk_at "lk"); (case hz => walk_at "lk"))
  | ((with_reducible refine' g_neNil ?hs ?hz ?_); (case hs => walk_at "lk"); (case hz => walk_at "lk"))
  | with_reducible refine Or.inl ⟨_, rfl, ?_⟩
  | with_reducible refine Or.inr ⟨_, rfl, ?_⟩
  | ((with_reducible refine' g_eq ?hs ?_); (case hs => rfl))
  | ((with_reducible refine' g_ne ?hs ?_); (case hs => rfl))
  | ((with_reducible refine' g_I ?hc ?_); (case hc => walk_at "ar")))
/-- arithmetic's side conditions -/
local macro_rules | `(tactic| walk_at "ar") => `(tactic| (first
  | (show (0 : Int) < _; first | omega | decide) | (show (0 : Int) < _ ∧ _; constructor <;> omega) | (show ¬ (_ : Int) = _; omega) | (show (_ : Int) ≠ _ ∧ _; constructor <;> omega)
  | (show (-(2 ^ 64) < _ ∧ _) ∨ _; (first | (left; constructor <;> omega) | (right; constructor <;> omega))) | (show (0 : Int) ≤ _ ∧ _ ∧ _; refine ⟨by omega, by omega, by decide⟩)))
/-- what stands at an index -/
local macro_rules | `(tactic| walk_at "at") => `(tactic| first | rfl | assumption)
/-- what stands at an address -/
local macro_rules | `(tactic| walk_at "hp") => `(tactic| first | assumption | exact upd_same | ((refine' Eq.trans (upd_ne ?hn) ?hm); (case hm => walk_at "hp"); (case hn => walk_at "ne")))
/-- two places are two -/
local macro_rules | `(tactic| walk_at "ne") => `(tactic| first
  | assumption | exact Ne.symm (by assumption)
  | ((refine' ne_of_none ?ha ?hb); (case hb => assumption); (case ha => walk_at "hp")) | ((refine' Ne.symm (ne_of_none ?ha ?hb)); (case hb => assumption); (case ha => walk_at "hp")))
/-- what a dict tells -/
local macro_rules | `(tactic| walk_at "dg") => `(tactic| first | assumption)
/-- a length -/
local macro_rules | `(tactic| walk_at "sz") => `(tactic| first | (show _ ≤ sizeLine; decide) | (show _ < sizeLine; decide) | assumption | exact szlt (by simp) | exact szle (by simp))
/-- a list or tuple that stands -/
local macro_rules | `(tactic| walk_at "lk") => `(tactic| first | assumption | exact SqL.of (by assumption) | exact SqT.of (by assumption) | exact SqL.of upd_same | exact SqT.of upd_same | (refine' FzL.sq ?hm; (case hm => walk_at "fz")))
/-- a list that nobody writes -/
local macro_rules | `(tactic| walk_at "fz") => `(tactic| first | assumption | ((refine' FzL.uw ?hm ?hx); (case hx => walk_at "hp"); (case hm => walk_at "fz")) | ((refine' FzL.nw ?hm ?hx); (case hx => assumption); (case hm => walk_at "fz")))
/-- as far as it goes by itself -/
local macro_rules | `(tactic| walk_at "g") => `(tactic| repeat walk_at "g1")
/-- the body's reading, its places in short -/
local macro_rules | `(tactic| walk_at "go") => `(tactic| ((try dsimp only [cxOf, Cx.nox, Cx.wish]); walk_at "g"))
namespace K3
open PySem PySem.Spec PyProof.Rows L2 Bq
section
variable {P : Program} {w : World} {K : PySem.W.Frag} {mg : Str → Option Value} {base : Heap}
/-- further steps: dicts written, tuples taken apart -/
local macro_rules | `(tactic| walk_at "g1") => `(tactic| first
  | with_reducible refine' g_sdput ?_
  | ((with_reducible refine' g_gtup ?hs ?hl ?_); (case hs => walk_at "lk"); (case hl => rfl))
  | with_reducible refine' g_gcons ?_
  | with_reducible refine' g_gnil ?_
  | with_reducible refine' And.intro (Eq.refl V.non) ?_
  | with_reducible refine' g_isN ?_
  | ((with_reducible refine' g_chainR ?ha ?hb ?hc ?_); (case ha => intro R q; walk_at "g"; exact q); (case hb => intro R q; walk_at "g"; exact q); (case hc => intro R q; walk_at "g"; exact q))
  | with_reducible refine' g_notN ?_)
/-- what the law's dict tells -/
local macro_rules | `(tactic| walk_at "dg") => `(tactic| first
  | assumption
  | exact LH.gfuns (by assumption)
  | exact LH.gsaid (by assumption)
  | exact LH.gcells (by assumption)
  | exact LH.gfuel (by assumption)
  | exact LH.gend (by assumption)
  | exact LH.gcalls (by assumption)
  | exact LH.gnames (by assumption)
  | exact LH.gwaits (by assumption)
  | exact LH.gworth (by assumption)
  | exact LH.glook (by assumption))
/-- a test that fails, that holds, by itself -/
local macro_rules | `(tactic| walk_at "no") => `(tactic| ((refine tkF rfl ?_); walk_at "g"))
local macro_rules | `(tactic| walk_at "yes") => `(tactic| ((refine tkT rfl ?_); walk_at "g"))
local macro_rules | `(tactic| walk_at "g1") => `(tactic| first
  | with_reducible refine' g_catS ?_
  | with_reducible refine' g_mulS ?_
  | with_reducible refine' g_rev ?_)
/-- numbers in lists, more -/
local macro_rules | `(tactic| walk_at "g1") => `(tactic| first
  | with_reducible refine' g_augS ?_
  | with_reducible refine' g_ipI ?_
  | with_reducible refine' g_revL ?_
  | ((with_reducible refine' g_getL ?hs ?he ?_); (case hs => walk_at "lk"); (case he => walk_at "at"))
  | with_reducible refine' g_enum ?_)
open Fl
/-! ### small parts -/
def kPs : List Nat := [0, 0, 2, 0, 0, 0, 0, 0]
def spSmall (K : PySem.W.Frag) (b : Nat) : Sp := fun vs H Q _ => ∃ d r, ∃ m : Int, vs = [.ref d, .ref r] ∧ Dice K H d ∧ d ≠ r ∧ H r = some (.lst [.int m]) ∧ m ≤ b ∧ 0 ≤ m ∧
  ∀ H' v p, ∀ m' : Int, Ch K [d, r] H H' → Dice K H' d → H' r = some (.lst [.int m']) → 0 ≤ m' → m' ≤ m → Rep K H' v (encP p) → wfP 8 kPs p → (szP p : Int) ≤ 2 * (m - m') + 1 → Q v H'
theorem small_step (C : Cn w K mg base) (k : Nat) (hk : 2 ≤ k) (b : Nat) {sp : Sp} (F_law_small : Fn P w K mg base CX0 k "_law_small" ["_law_d", "_law_room"] sp)
    (hsp : ∀ c, b = c + 1 → ∀ vs H Q E, spSmall K c vs H Q E → sp vs H Q E) : Fn P w K mg base CX0 (k + 1) "_law_small" ["_law_d", "_law_room"] (spSmall K b) := C.f_law_small fun fd F => by
  have F_law_next : Fn P w K mg base CX0 1 "_law_next" ["_law_dice_here", "_law_many"] (spNext K) := fn_next C
  refine F.ok (CX := CX0) sc_law_small (fun vs H Q E h => ?_) (fun cdv A outer s H vs Q E hr h => ?_)
  · obtain ⟨d, r, m, rfl, _⟩ := h
    rfl
  · obtain ⟨d, r, m, rfl, D, dr, h0, mb, m0, q⟩ := h
    have hu := hu_of (hr.mono (show 1 ≤ k by omega))
    refine ⟨_, PSs.nox (pss_cons (ps_set (i := 2) sc_law_small.nd rfl (Or.inl rfl) (pe_fn F_law_next (rmm hr) (by rfl) pass0 (pa_cons (pv 0) (pa_cons pe_int pa_nil))))
      (pss_cons (ps_if (PW.pt (pw_or (pt_cmpR op_le (pe_ix ix_list (pv 1) pe_int (fun _ _ => rfl)) pe_int (nomark _)) (pw_or1 (pt_cmpR op_eq (pv 2) pe_int (nomark _))))) (pss_one (ps_ret (pe_ix ix_list (pe_lstC (pa_cons (pe_tupC (pa_cons pe_str (pa_cons (pe_fn F_law_next (rmm hr) (by rfl) pass0 (pa_cons (pv 0) (pa_cons pe_int pa_nil))) pa_nil))) (pa_cons (pe_tupC (pa_cons pe_str (pa_cons pe_int pa_nil))) (pa_cons (pe_tupC (pa_cons pe_str (pa_cons pe_int (pa_cons (pe_tupC pa_nil) pa_nil)))) pa_nil)))) (pe_ix ix_list (pe_lstC (pa_cons pe_int (pa_cons pe_int (pa_cons pe_int (pa_cons pe_int pa_nil))))) (pe_fn F_law_next (rmm hr) (by rfl) pass0 (pa_cons (pv 0) (pa_cons pe_int pa_nil))) (fun _ _ => rfl)) (fun _ _ => rfl)))) pss_nil)
      (pss_cons (ps_asg (pe_op op_sub (pe_ix ix_list (pv 1) pe_int (fun _ _ => rfl)) pe_int) (pg_sub (pv 1) pe_int set_list))
      (pss_cons (ps_if (pt_cmpR op_lt (pv 2) pe_int (nomark _)) (pss_one (ps_ret (pe_tupC (pa_cons pe_str (pa_cons (pe_fn F_law_small (rmm hr) (by rfl) pass0 (pa_cons (pv 0) (pa_cons (pv 1) pa_nil))) pa_nil))))) pss_nil)
      (pss_cons (ps_set (i := 3) sc_law_small.nd rfl (Or.inl rfl) (pe_fn F_law_small (rmm hr) (by rfl) pass0 (pa_cons (pv 0) (pa_cons (pv 1) pa_nil))))
      (pss_one (ps_ret (pe_tupC (pa_cons (pe_ix ix_list (pe_lstC (pa_cons pe_str (pa_cons pe_str (pa_cons pe_str (pa_cons pe_str pa_nil))))) (pe_op op_sub (pv 2) pe_int) (fun _ _ => rfl)) (pa_cons (pv 3) (pa_cons (pe_fn F_law_small (rmm hr) (by rfl) pass0 (pa_cons (pv 0) (pa_cons (pv 1) pa_nil))) pa_nil))))))))))), ?_⟩
    walk_at "go"
    refine ⟨d, 8, rfl, D, by decide, by decide, fun H1 way c1 D1 w0 w1 => ?_⟩
    have e1 := c1.up _ _ h0 (by simpa using dr.symm)
    have c1' : Ch K [d, r] H H1 := c1.mono (by simp)
    walk_at "g"
    refine iteB (fun h => ?_) (fun h => ?_)
    · walk_at "g"
      refine ⟨d, 9, rfl, D1, by decide, by decide, fun H2 n c2 D2 n0 n1 => ?_⟩
      have e2 := c2.up _ _ e1 (by simpa using dr.symm)
      walk_at "g"
      refine ⟨szle (by simp), fun p1 H3 np1 ep1 k1 => ?_⟩
      walk_at "g"
      refine ⟨szle (by simp), fun p2 H4 np2 ep2 k2 => ?_⟩
      walk_at "g"
      refine ⟨szle (by simp), fun o1 H5 no1 eo1 k3 => ?_⟩
      walk_at "g"
      refine ⟨szle (by simp), fun p3 H6 np3 ep3 k4 => ?_⟩
      walk_at "g"
      refine ⟨szle (by simp), fun l1 H7 nl1 el1 k5 => ?_⟩
      walk_at "g"
      refine ⟨szle (by simp), fun l2 H8 nl2 el2 k6 => ?_⟩
      have k28 := ((((k1.trans k2).trans k3).trans k4).trans k5).trans k6
      have D8 := D2.ch k28 (by simp)
      have e8 := k28.up _ _ e2 (by simp)
      walk_at "g"
      refine ⟨d, 4, rfl, D8, by decide, by decide, fun H9 j c9 D9 j0 j1 => ?_⟩
      have e9 := c9.up _ _ e8 (by simpa using dr.symm)
      have nl2d : l2 ≠ d := (D2.ch ((((k1.trans k2).trans k3).trans k4).trans k5) (by simp)).ne nl2
      have nl1d : l1 ≠ d := (D2.ch (((k1.trans k2).trans k3).trans k4) (by simp)).ne nl1
      have el2' := SqL.of (K := K) (c9.up _ _ el2 (by simpa using nl2d))
      have el1' := SqL.of (K := K) (c9.up _ _ (k6.up _ _ el1 (by simp)) (by simpa using nl1d))
      have c19 : Ch K [d, r] H H9 := ((c1'.trans (c2.mono (by simp))).trans (k28.mono (by simp))).trans (c9.mono (by simp))
      have fin : ∀ (i : Int) (a : Addr), ([V.int 0, V.int 1, V.int 1, V.int 2])[j.toNat]? = some (.int i) → (∃ x : Nat, i = x) → ([V.ref p1, V.ref p2, V.ref p3])[i.toNat]? = some (.ref a) → (∃ p, Rep K H9 (.ref a) (encP p) ∧ wfP 8 kPs p ∧ szP p = 1) → rIxL K (V.ref l1) (V.int i) H9 Q := by
        rintro i a hj ⟨x, rfl⟩ hi ⟨p, rp, wf, sz⟩
        refine g_ixL el1' (atI_nat (by simpa using hi)) ?_
        exact q H9 _ p m c19 D9 e9 m0 (Int.le_refl _) rp wf (by omega)
      have kp1 : SqT K H9 p1 [.str "num", .int n] := (((((((k2.trans k3).trans k4).trans k5).trans k6).kt).trans c9.kt)).t _ _ (SqT.of ep1)
      have kp2 : SqT K H9 p2 [.str "name", .int 1] := ((((((k3.trans k4).trans k5).trans k6).kt).trans c9.kt)).t _ _ (SqT.of ep2)
      have ko1 : SqT K H9 o1 [] := (((((k4.trans k5).trans k6).kt).trans c9.kt)).t _ _ (SqT.of eo1)
      have kp3 : SqT K H9 p3 [.str "call", .int 0, .ref o1] := ((((k5.trans k6).kt).trans c9.kt)).t _ _ (SqT.of ep3)
      have r1 : ∃ p, Rep K H9 (.ref p1) (encP p) ∧ wfP 8 kPs p ∧ szP p = 1 := ⟨.num n, .tup kp1 (.cons (.str _) (.cons (.int _) .nil)), ⟨by omega, by omega⟩, rfl⟩
      have r2 : ∃ p, Rep K H9 (.ref p2) (encP p) ∧ wfP 8 kPs p ∧ szP p = 1 := ⟨.name 1, .tup kp2 (.cons (.str _) (.cons (.int _) .nil)), show 1 < 8 by decide, rfl⟩
      have r3 : ∃ p, Rep K H9 (.ref p3) (encP p) ∧ wfP 8 kPs p ∧ szP p = 1 := ⟨.call 0 [], .tup kp3 (.cons (.str _) (.cons (.int _) (.cons (.tup ko1 .nil) .nil))), ⟨rfl, trivial⟩, rfl⟩
      have hj4 : j = 0 ∨ j = 1 ∨ j = 2 ∨ j = 3 := by omega
      rcases hj4 with rfl | rfl | rfl | rfl
      · refine g_ixL el2' (v := .int 0) rfl ?_
        exact fin 0 p1 rfl ⟨0, rfl⟩ rfl r1
      · refine g_ixL el2' (v := .int 1) rfl ?_
        exact fin 1 p2 rfl ⟨1, rfl⟩ rfl r2
      · refine g_ixL el2' (v := .int 1) rfl ?_
        exact fin 1 p2 rfl ⟨1, rfl⟩ rfl r2
      · refine g_ixL el2' (v := .int 2) rfl ?_
        exact fin 2 p3 rfl ⟨2, rfl⟩ rfl r3
    · have h2 : 0 < m := by
        simp only [Bool.or_eq_false_iff, decide_eq_false_iff_not] at h
        omega
      obtain ⟨c, rfl⟩ : ∃ c, b = c + 1 := ⟨b - 1, by omega⟩
      have hsp' := hsp c rfl
      walk_at "g"
      have cw : Ch K [d, r] H1 (upd H1 r (.lst [.int (m - 1)])) := Ch.wrL e1 (by simp)
      have Dw : Dice K (upd H1 r (.lst [.int (m - 1)])) d := D1.ch (S := [r]) (Ch.wrL e1 (by simp)) (by simpa using dr)
      have ew : (upd H1 r (.lst [.int (m - 1)])) r = some (.lst [.int (m - 1)]) := upd_same
      have c2 := c1'.trans cw
      refine iteB (fun h => ?_) (fun h => ?_)
      · walk_at "g"
        refine hsp' _ _ _ _ ⟨d, r, m - 1, rfl, Dw, dr, ew, by omega, by omega, fun H2 v p m' k2 D2 e2 n0 n1 rp wf sz => ?_⟩
        walk_at "g"
        refine ⟨szle (by simp), fun p1 H3 np1 ep1 k3 => ?_⟩
        walk_at "g"
        refine q H3 _ (.get p) m' ((c2.trans k2).trans (k3.mono (by simp))) (D2.ch k3 (by simp)) (k3.up _ _ e2 (by simp)) n0 (by omega) (.tup (SqT.of ep1) (.cons (.str _) (.cons (rp.kt k3.kt) .nil))) wf (by simp only [szP]; omega)
      · have h4 : 4 ≤ way := by
          have := of_decide_eq_false h
          omega
        walk_at "g"
        refine hsp' _ _ _ _ ⟨d, r, m - 1, rfl, Dw, dr, ew, by omega, by omega, fun H2 v p m' k2 D2 e2 n0 n1 rp wf sz => ?_⟩
        walk_at "g"
        refine ⟨szle (by simp), fun l1 H3 nl1 el1 k3 => ?_⟩
        obtain ⟨o, ho⟩ : ∃ o : Op, atI [V.str "over", V.str "add", V.str "add", V.str "times"] (way - 4) = some (.str o.str) := by
          have : way = 4 ∨ way = 5 ∨ way = 6 ∨ way = 7 := by omega
          rcases this with rfl | rfl | rfl | rfl
          · exact ⟨.over, rfl⟩
          · exact ⟨.add, rfl⟩
          · exact ⟨.add, rfl⟩
          · exact ⟨.times, rfl⟩
        walk_at "g"
        refine hsp' _ _ _ _ ⟨d, r, m', rfl, D2.ch k3 (by simp), dr, k3.up _ _ e2 (by simp), by omega, by omega, fun H4 v2 p2 m2 k4 D4 e4 n02 n12 rp2 wf2 sz2 => ?_⟩
        walk_at "g"
        refine ⟨szle (by simp), fun p1 H5 np1 ep1 k5 => ?_⟩
        walk_at "g"
        have k35 : Kt K H2 H5 := (k3.kt.trans k4.kt).trans k5.kt
        refine q H5 _ (.bin o p p2) m2 ((((c2.trans k2).trans (k3.mono (by simp))).trans k4).trans (k5.mono (by simp))) (D4.ch k5 (by simp)) (k5.up _ _ e4 (by simp)) n02 (by omega) (.tup (SqT.of ep1) (.cons (.str _) (.cons (rp.kt k35) (.cons (rp2.kt k5.kt) .nil)))) ⟨wf, wf2⟩ (by simp only [szP]; omega)
theorem fn_small (C : Cn w K mg base) : ∀ n : Nat, Fn P w K mg base CX0 (n + 3) "_law_small" ["_law_d", "_law_room"] (spSmall K n)
  | 0 => small_step C 2 (by decide) 0 (sp := fun _ _ _ _ => False) (C.f_law_small fun fd F => ⟨fun _ _ _ _ h => h.elim, fun _ _ _ _ _ _ _ _ _ _ _ _ _ h => h.elim⟩) fun m h => by omega
  | n + 1 => small_step C (n + 3) (by omega) (n + 1) (fn_small C n) fun m e _ _ _ _ h => by
    have : m = n := by omega
    rw [← this]
    exact h
end
end K3
end

section
set_option maxRecDepth 100000
set_option maxHeartbeats 1000000
open Bq L2
/-- one step of a reading; what is left are side goals and places to think -/
local macro_rules | `(tactic| walk_at "g1") => `(tactic| first
  | with_reducible refine' g_seq ?_ | with_reducible refine' g_asg ?_ | with_reducible refine' g_drop ?_ | with_reducible refine' g_ret ?_ | with_reducible refine' g_ifS ?_ | with_reducible refine' g_asgG ?_
  | ((with_reducible refine' g_var ?hv ?_); (case hv => rfl))
  | with_reducible refine' g_c ?_ | with_reducible refine' g_op ?_ | with_reducible refine' g_un ?_ | with_reducible refine' g_I0 ?_ | with_reducible refine' g_U ?_
  | with_reducible refine' g_test ?_ | with_reducible refine' g_tB ?_ | with_reducible refine Exists.intro _ (And.intro rfl ?_) 
  | ((with_reducible refine' g_andP ?ha ?hb ?_); (case ha => intro R q; walk_at "g"; exact q); (case hb => intro R q; walk_at "g"; exact q))
  | ((with_reducible refine' g_orP ?ha ?hb ?_); (case ha => intro R q; walk_at "g"; exact q); (case hb => intro R q; walk_at "g"; exact q))
  | with_reducible refine' g_and ?_ | with_reducible refine' g_or ?_ | with_reducible refine' g_not ?_
  | with_reducible refine' g_andV ?_ | with_reducible refine' g_orV ?_ | with_reducible refine' g_notV ?_ | with_reducible refine' g_if ?_ | with_reducible refine' g_nil ?_ | with_reducible refine' g_cons ?_
  | with_reducible refine' g_tup ?_ | with_reducible refine' g_lst ?_ | with_reducible refine' g_CB ?_ | with_reducible refine' g_Fn ?_ | with_reducible refine' g_next ?_ | with_reducible refine' g_retN ?_
  | with_reducible refine' g_name ?_ | with_reducible refine' g_sub ?_
  | ((with_reducible refine' g_ixL ?hs ?he ?_); (case hs => walk_at "lk"); (case he => walk_at "at"))
  | ((with_reducible refine' g_ixT ?hs ?he ?_); (case hs => walk_at "lk"); (case he => walk_at "at"))
  | ((with_reducible refine' g_setL ?hs ?he ?_); (case hs => walk_at "hp"); (case he => rfl))
  | ((with_reducible refine' g_app ?hs ?hz ?_); (case hs => walk_at "hp"); (case hz => walk_at "sz"))
  | ((with_reducible refine' ⟨_, _, rfl, Or.inl ?hs, ?_⟩); (case hs => walk_at "lk"))
  | ((with_reducible refine' ⟨_, _, rfl, Or.inr ?hs, ?_⟩); (case hs => walk_at "lk"))
  | with_reducible refine' g_BM ?_ | with_reducible refine' g_BM0 ?_ | ((with_reducible refine' g_tyL ?hs ?_); (case hs => walk_at "lk"))
  | with_reducible refine' g_sl ?_ | with_reducible refine' g_noPart ?_ | with_reducible refine' g_part ?_
  | ((with_reducible refine' g_inT ?hs ?fx ?fs ?_); (case hs => walk_at "lk"); (case fx => rfl); (case fs => rfl))
  | with_reducible refine' g_pair ?_ | with_reducible refine' g_pair0 ?_ | with_reducible refine' g_disp ?_
  | with_reducible refine' g_for ?_ | with_reducible refine' g_tupC ?_ | with_reducible refine' g_lstC ?_ | ((with_reducible refine' g_lens ?_)) | with_reducible refine' g_dg ?_ | with_reducible refine' g_lc ?_ | with_reducible refine' g_rng1 ?_ | with_reducible refine' g_ilist ?_ | with_reducible refine' g_itup ?_
  | ((with_reducible refine' ⟨_, _, rfl, ?hd, ?_⟩); (case hd => walk_at "dg"))
  | ((with_reducible refine' g_eqNil ?hs ?hz ?_); (case hs => walk_at "lk"); (case hz => walk_at "lk"))
  | ((with_reducible refine' g_neNil ?hs ?hz ?_); (case hs => walk_at "lk"); (case hz => walk_at "lk"))
  | with_reducible refine Or.inl ⟨_, rfl, ?_⟩
  | with_reducible refine Or.inr ⟨_, rfl, ?_⟩
  | ((with_reducible refine' g_eq ?hs ?_); (case hs => rfl))
  | ((with_reducible refine' g_ne ?hs ?_); (case hs => rfl))
  | ((with_reducible refine' g_I ?hc ?_); (case hc => walk_at "ar")))
/-- arithmetic's side conditions -/
local macro_rules | `(tactic| walk_at "ar") => `(tactic| (first
  | (show (0 : Int) < _; first | omega | decide) | (show (0 : Int) < _ ∧ _; constructor <;> omega) | (show ¬ (_ : Int) = _; omega) | (show (_ : Int) ≠ _ ∧ _; constructor <;> omega)
  | (show (-(2 ^ 64) < _ ∧ _) ∨ _; (first | (left; constructor <;> omega) | (right; constructor <;> omega))) | (show (0 : Int) ≤ _ ∧ _ ∧ _; refine ⟨by omega, by omega, by decide⟩)))
/-- what stands at an index -/
local macro_rules | `(tactic| walk_at "at") => `(tactic| first | rfl | assumption)
/-- what stands at an address -/
local macro_rules | `(tactic| walk_at "hp") => `(tactic| first | assumption | exact upd_same | ((refine' Eq.trans (upd_ne ?hn) ?hm); (case hm => walk_at "hp"); (case hn => walk_at "ne")))
/-- two places are two -/
local macro_rules | `(tactic| walk_at "ne") => `(tactic| first
  | assumption | exact Ne.symm (by assumption)
  | ((refine' ne_of_none ?ha ?hb); (case hb => assumption); (case ha => walk_at "hp")) | ((refine' Ne.symm (ne_of_none ?ha ?hb)); (case hb => assumption); (case ha => walk_at "hp")))
/-- what a dict tells -/
local macro_rules | `(tactic| walk_at "dg") => `(tactic| first | assumption)
/-- a length -/
local macro_rules | `(tactic| walk_at "sz") => `(tactic| first | (show _ ≤ sizeLine; decide) | (show _ < sizeLine; decide) | assumption | exact szlt (by simp) | exact szle (by simp))
/-- a list or tuple that stands -/
local macro_rules | `(tactic| walk_at "lk") => `(tactic| first | assumption | exact SqL.of (by assumption) | exact SqT.of (by assumption) | exact SqL.of upd_same | exact SqT.of upd_same | (refine' FzL.sq ?hm; (case hm => walk_at "fz")))
/-- a list that nobody writes -/
local macro_rules | `(tactic| walk_at "fz") => `(tactic| first | assumption | ((refine' FzL.uw ?hm ?hx); (case hx => walk_at "hp"); (case hm => walk_at "fz")) | ((refine' FzL.nw ?hm ?hx); (case hx => assumption); (case hm => walk_at "fz")))
/-- as far as it goes by itself -/
local macro_rules | `(tactic| walk_at "g") => `(tactic| repeat walk_at "g1")
/-- the body's reading, its places in short -/
local macro_rules | `(tactic| walk_at "go") => `(tactic| ((try dsimp only [cxOf, Cx.nox, Cx.wish]); walk_at "g"))
namespace K3
open PySem PySem.Spec PyProof.Rows L2 Bq
section
variable {P : Program} {w : World} {K : PySem.W.Frag} {mg : Str → Option Value} {base : Heap}
/-- further steps: dicts written, tuples taken apart -/
local macro_rules | `(tactic| walk_at "g1") => `(tactic| first
  | with_reducible refine' g_sdput ?_
  | ((with_reducible refine' g_gtup ?hs ?hl ?_); (case hs => walk_at "lk"); (case hl => rfl))
  | with_reducible refine' g_gcons ?_
  | with_reducible refine' g_gnil ?_
  | with_reducible refine' And.intro (Eq.refl V.non) ?_
  | with_reducible refine' g_isN ?_
  | ((with_reducible refine' g_chainR ?ha ?hb ?hc ?_); (case ha => intro R q; walk_at "g"; exact q); (case hb => intro R q; walk_at "g"; exact q); (case hc => intro R q; walk_at "g"; exact q))
  | with_reducible refine' g_notN ?_)
/-- what the law's dict tells -/
local macro_rules | `(tactic| walk_at "dg") => `(tactic| first
  | assumption
  | exact LH.gfuns (by assumption)
  | exact LH.gsaid (by assumption)
  | exact LH.gcells (by assumption)
  | exact LH.gfuel (by assumption)
  | exact LH.gend (by assumption)
  | exact LH.gcalls (by assumption)
  | exact LH.gnames (by assumption)
  | exact LH.gwaits (by assumption)
  | exact LH.gworth (by assumption)
  | exact LH.glook (by assumption))
/-- a test that fails, that holds, by itself -/
local macro_rules | `(tactic| walk_at "no") => `(tactic| ((refine tkF rfl ?_); walk_at "g"))
local macro_rules | `(tactic| walk_at "yes") => `(tactic| ((refine tkT rfl ?_); walk_at "g"))
local macro_rules | `(tactic| walk_at "g1") => `(tactic| first
  | with_reducible refine' g_catS ?_
  | with_reducible refine' g_mulS ?_
  | with_reducible refine' g_rev ?_)
/-- numbers in lists, more -/
local macro_rules | `(tactic| walk_at "g1") => `(tactic| first
  | with_reducible refine' g_augS ?_
  | with_reducible refine' g_ipI ?_
  | with_reducible refine' g_revL ?_
  | ((with_reducible refine' g_getL ?hs ?he ?_); (case hs => walk_at "lk"); (case he => walk_at "at"))
  | with_reducible refine' g_enum ?_)
open Fl
/-! ### the lists found -/
inductive FoundR (K : PySem.W.Frag) (H : Hp) (N : List Addr) : List V → List (List Int) → Prop where
  | nil : FoundR K H N [] []
  | cons {a : Addr} {rs : List V} {f : List Int} {F : List (List Int)} (h : H a = some (.lst (iv f))) (n : a ∉ N) (r : FoundR K H N rs F) : FoundR K H N (.ref a :: rs) (f :: F)
theorem FoundR.len {H : Hp} {N : List Addr} {rs : List V} {F : List (List Int)} (h : FoundR K H N rs F) : rs.length = F.length := by
  induction h with
  | nil => rfl
  | cons _ _ _ ih => simp [ih]
theorem FoundR.ch {H H' : Hp} {S N : List Addr} {rs : List V} {F : List (List Int)} (h : FoundR K H N rs F) (c : Ch K S H H') (s : ∀ x ∈ S, x ∈ N) : FoundR K H' N rs F := by
  induction h with
  | nil => exact .nil
  | cons h n _ ih => exact .cons (c.up _ _ h fun z => n (s _ z)) n ih
theorem FoundR.snoc {H : Hp} {N : List Addr} {rs : List V} {F : List (List Int)} {a : Addr} {f : List Int} (h : FoundR K H N rs F) (g : H a = some (.lst (iv f))) (n : a ∉ N) : FoundR K H N (rs ++ [.ref a]) (F ++ [f]) := by
  induction h with
  | nil => exact .cons g n .nil
  | cons h n _ ih => exact .cons h n ih
theorem FoundR.at {H : Hp} {N : List Addr} {rs : List V} {F : List (List Int)} {i : Nat} {v : V} (h : FoundR K H N rs F) (hi : rs[i]? = some v) : ∃ f a, F[i]? = some f ∧ v = .ref a ∧ H a = some (.lst (iv f)) ∧ a ∉ N := by
  induction h generalizing i with
  | nil => simp at hi
  | cons h n _ ih =>
    cases i with
    | zero => simp at hi; subst hi; exact ⟨_, _, rfl, rfl, h, n⟩
    | succ i => 
      obtain ⟨f, a, q⟩ := ih (i := i) (by simpa using hi)
      exact ⟨f, a, by simpa using q.1, q.2⟩
def bestV : Option Int → List V
  | none => []
  | some b => [.int b]
theorem cutV_m1 {n : Nat} (h : 1 ≤ n) (s : Nat → Int) : cutV (hv n s) (some (-1)) none = [V.int (s (n - 1))] := by
  obtain ⟨m, rfl⟩ : ∃ m, n = m + 1 := ⟨n - 1, by omega⟩
  have e1 : HT.sIx (m + 1) 0 (some (-1)) = m := by
    unfold HT.sIx
    show (if (-1 : Int) < 0 then _ else _) = m
    rw [if_pos (by decide)]
    omega
  have e2 : HT.sIx (m + 1) (m + 1) none = m + 1 := rfl
  unfold cutV
  rw [hv_len, e1, e2]
  unfold hv
  rw [List.range_succ, List.map_append]
  simp
theorem fullL_split {E : List LE} (h : 1 ≤ E.length) (s : Nat → Int) : fullL E s = (List.range (E.length - 1)).map (fullE E s) ++ [s (E.length - 1)] := by
  obtain ⟨m, hm⟩ : ∃ m, E.length = m + 1 := ⟨E.length - 1, by omega⟩
  unfold fullL
  rw [hm, Nat.add_sub_cancel, List.range_succ, List.map_append, List.map_cons, List.map_nil]
  congr 2
  unfold fullE
  rw [if_neg (by omega)]
def spMet (K : PySem.W.Frag) : Sp := fun vs H Q _ => ∃ tl hl bl fl es E N s B rs F, vs = [.ref tl, .ref hl, .int (costE E s E.length), .ref bl, .ref fl] ∧ SqL K H tl es ∧ TreeR K H N es E ∧ OkLE E ∧ E.length ≤ 60 ∧ H hl = some (.lst (hv E.length s)) ∧ TrE E s E.length ∧
  (∃ k, k ∈ kidsE E (E.length - 1)) ∧ H bl = some (.lst (bestV B)) ∧ H fl = some (.lst rs) ∧ FoundR K H [bl, fl] rs F ∧ bl ≠ fl ∧ F.length ≤ 1000000 ∧ (∀ b, B = some b → costE E s E.length ≤ b) ∧
  ∀ H' rs', Ch K [bl, fl] H H' → H' bl = some (.lst (bestV (metB E s))) → H' fl = some (.lst rs') → FoundR K H' [bl, fl] rs' ((if metR E s B = true then [] else F) ++ [fullL E s]) → Q .non H'
theorem fn_met (C : Cn w K mg base) : Fn P w K mg base CX0 3 "_law_met" ["_law_tree_here", "_law_here", "_law_many", "_law_best", "_law_found"] (spMet K) := C.f_law_met fun fd F => by
  have F_law_outer : Fn P w K mg base CX0 2 "_law_outer" ["_law_tree_here"] (spLOuter K) := fn_louter C
  refine F.ok (CX := CX0) sc_law_met (fun vs H Q E h => ?_) (fun cdv A outer s H vs Q E hr h => ?_)
  · obtain ⟨tl, hl, bl, fl, es, E, N, s, B, rs, F, rfl, _⟩ := h
    rfl
  · obtain ⟨tl, hl, bl, fl, es, E, N, s, B, rs, F, rfl, st, tr, o, lE, eh, T, kd, eb, ef, fr, nbf, lF, le, q⟩ := h
    have hu := hu_of (rmm (j := 1) hr)
    have hu0 : ∀ {A : Around}, A.units + 1 < cLine → A.units < cLine := fun h => by omega
    replace hu0 := hu0 hu
    refine ⟨_, PSs.nox (pss_cons (ps_set (i := 5) sc_law_met.nd rfl (Or.inr rfl) (pe_fn F_law_outer (rmm hr) (by rfl) pass0 (pa_cons (pv 0) pa_nil)))
      (pss_cons (ps_set (i := 6) sc_law_met.nd rfl (Or.inl rfl) (pe_op op_catL (pe_lc (own := [("_law_k", 7)]) (g := gName 7) (tt := tYes) rfl sc_law_met.nd (pi_range1 (by rfl) (C.m_range) (pa_cons (pe_op op_sub (pe_callB call_len_seq (by rfl) (C.m_len) PySem.boot_len (pa_cons (pv 1) pa_nil)) pe_int) pa_nil)) (blkOk_by (own := [("_law_k", 7)]) (N := ["_law_tree_here", "_law_here", "_law_many", "_law_best", "_law_found", "_law_outer_here", "_law_full", "_law_k"]) (sc := defScope s_law_met) (by decide +kernel)) (fun _ _ _ _ _ => pg_name (i := 7) sc_law_met.nd rfl (Or.inl rfl)) (fun _ _ _ _ _ => pts_nil) (fun _ _ _ _ _ => (pe_ifExp (pt_cmpR op_lt (pe_ix (ix_listK K) (pv 1) (pv 7) (fun _ _ => rfl)) pe_int (nomark _)) (pe_op op_sub (pe_ix (ix_listK K) (pv 1) (pe_dget hu (pv 5) (pv 7) (fun _ _ => rfl)) (fun _ _ => rfl)) pe_int) (pe_ix (ix_listK K) (pv 1) (pv 7) (fun _ _ => rfl))))) (pe_slice sl_list (pv 1) (po_some (pe_un un_neg pe_int)) po_none)))
      (Evl.pss_cut (ps_if (pt_mid (PW.pt (pw_or (pt_cmpR (op_eqNil hu0) (pv 3) (pe_lstC pa_nil) (nomark _)) (pw_or1 (pt_cmpR op_lt (pv 2) (pe_ix ix_list (pv 3) pe_int (fun _ _ => rfl)) (nomark _)))))) (pss_cons (ps_asg (pe_lstC (pa_cons (pv 2) pa_nil)) (pg_all (pv 3)))
      (pss_one (ps_asg (pe_lstC pa_nil) (pg_all (pv 4))))) pss_nil)
      (pss_one (ps_expr (pe_bm PySem.F.plainAttrs_list PySem.F.slot_list_append PySem.F.type_list_append mt_append (pv 4) (pa_cons (pv 6) pa_nil))))))), ?_⟩
    walk_at "go"
    refine ⟨tl, es, E, N, rfl, st, tr, o, fun H1 dl c1 nd ed => ?_⟩
    have eh1 := c1.up _ _ eh (by simp)
    have n1 := o.n1
    walk_at "g"
    rw [hv_len, show ((E.length : Int) - 1).toNat = E.length - 1 by omega]
    refine ⟨by omega, by omega, fun D nD => ?_⟩
    refine lc_it (walk_range (n := E.length - 1)) (fun i H' => Ch K [] H1 H' ∧ H' D = some (.lst (iv ((List.range i).map (fullE E s))))) ⟨Ch.new nD, by rw [upd_same]; rfl⟩ (fun i H' _ _ => trivial) ?_ ?_
    · rintro i x1 _ H2 hi ⟨c2, e2⟩ ⟨rfl, hx⟩
      cases hx
      have eh2 := SqL.of (K := K) (c2.up _ _ eh1 (by simp))
      have ed2 := c2.up _ _ ed (by simp)
      obtain ⟨kp1, kp2, kp3⟩ := kid_par o hi
      have g1 := atI_nat (hv_at (h := s) (show i < E.length by omega))
      have g2 := atI_nat (hv_at (h := s) kp3)
      have hdg : DGet H2 dl (.int ((i : Nat) : Int)) (some (.int ((parE E i : Nat) : Int))) := .inl ⟨outK E, Sum.inl ((i : Nat) : Int), .inl ed2, rfl, (o.out hi).symm⟩
      have hz2 : (iv ((List.range i).map (fullE E s))).length < sizeLine := by
        rw [iv_len, List.length_map, List.length_range, sizeLine_eq]; omega
      rw [show (fun i : Nat => V.int (0 + (i : Int))) i = V.int ((i : Nat) : Int) by simp]
      have fin : ∀ y : Int, y = fullE E s i → Ch K [] H1 (upd H2 D (.lst (iv ((List.range i).map (fullE E s)) ++ [V.int y]))) ∧ (upd H2 D (.lst (iv ((List.range i).map (fullE E s)) ++ [V.int y]))) D = some (.lst (iv ((List.range (i + 1)).map (fullE E s)))) := by
        rintro y rfl
        refine ⟨Ch.wrN c2 nD e2 rfl, ?_⟩
        rw [upd_same, List.range_succ, List.map_append]
        simp [iv]
      walk_at "g"
      refine ⟨rfl, ?_⟩
      simp only [tYes, ↓reduceIte]
      walk_at "g"
      refine iteB (fun h0 => ?_) (fun h0 => ?_)
      · have h0 := of_decide_eq_true h0
        walk_at "g"
        refine ⟨_, e2, hz2, ?_⟩
        exact fin _ (by unfold fullE; rw [if_pos ⟨hi, h0⟩])
      · have h0 := of_decide_eq_false h0
        walk_at "g"
        refine ⟨_, e2, hz2, ?_⟩
        exact fin _ (by unfold fullE; rw [if_neg (by omega)])
    · rintro H2 ⟨c2, e2⟩
      have c12 := c1.trans c2
      have eh2 := c2.up _ _ eh1 (by simp)
      have nDf : D ≠ fl := fun z => by rw [z, c1.up _ _ ef (by simp)] at nD; cases nD
      have nDb : D ≠ bl := fun z => by rw [z, c1.up _ _ eb (by simp)] at nD; cases nD
      walk_at "g"
      refine ⟨hl, _, rfl, SqL.of eh2, fun l3 nl3 => ?_⟩
      rw [cutV_m1 n1]
      have c3 : Ch K [] H2 (upd H2 l3 (.lst [V.int (s (E.length - 1))])) := Ch.new nl3
      have e3 : (upd H2 l3 (.lst [V.int (s (E.length - 1))])) l3 = some (.lst [V.int (s (E.length - 1))]) := upd_same
      generalize upd H2 l3 (.lst [V.int (s (E.length - 1))]) = H3 at c3 e3 ⊢
      refine ⟨D, l3, _, _, rfl, rfl, c3.up _ _ e2 (by simp), e3, by rw [iv_len, List.length_map, List.length_range, sizeLine_eq]; simp; omega, fun full H4 n4 e4 c4 => ?_⟩
      have ee : iv ((List.range (E.length - 1)).map (fullE E s)) ++ [V.int (s (E.length - 1))] = iv (fullL E s) := by rw [fullL_split n1]; simp [iv]
      rw [ee] at e4
      have c14 := (c12.trans c3).trans c4
      have eb4 := c14.up _ _ eb (by simp)
      have ef4 := c14.up _ _ ef (by simp)
      have fr4 := fr.ch c14 (by simp)
      refine g_cut (Mid := fun σ' H' => ∃ rs', σ' = [some (.ref tl), some (.ref hl), some (.int (costE E s E.length)), some (.ref bl), some (.ref fl), some (.ref dl), some (.ref full), none] ∧ Ch K [bl, fl] H H' ∧ H' full = some (.lst (iv (fullL E s))) ∧ H' bl = some (.lst (bestV (metB E s))) ∧ H' fl = some (.lst rs') ∧ FoundR K H' [bl, fl] rs' (if metR E s B = true then [] else F)) ?_ ?_
      · refine g_ifS (g_mid (fun b H' => b = metR E s B ∧ Ch K [] H4 H') ?_ ?_)
        · walk_at "g"
          refine ⟨szle (by simp), fun l5 H5 n5 e5 c5 => ?_⟩
          refine g_eqNil (SqL.of (c5.up _ _ eb4 (by simp))) (SqL.of e5) ?_
          cases B with
          | none =>
            refine ⟨_, rfl, ?_⟩
            rw [if_pos (show (bestV none).isEmpty = true from rfl)]
            exact ⟨rfl, c5⟩
          | some b =>
            refine ⟨_, rfl, ?_⟩
            rw [if_neg (show ¬ ((bestV (some b)).isEmpty = true) from Bool.false_ne_true)]
            have eb5 := SqL.of (K := K) (c5.up _ _ eb4 (by simp))
            have g0 : atI (bestV (some b)) 0 = some (.int b) := rfl
            walk_at "g"
            exact ⟨rfl, c5⟩
        rintro r H5 ⟨rfl, c5⟩
        have eb5 := c5.up _ _ eb4 (by simp)
        have ef5 := c5.up _ _ ef4 (by simp)
        have e5 := c5.up _ _ e4 (by simp)
        have fr5 := fr4.ch c5 (by simp)
        have c15 := c14.trans c5
        refine iteB (fun hm => ?_) (fun hm => ?_)
        · walk_at "g"
          refine ⟨szle (by simp), fun l6 H6 n6 e6 c6 => ?_⟩
          have eb6 := c6.up _ _ eb5 (by simp)
          have n6b : bl ≠ l6 := ne_of_none eb5 n6
          have lb : (bestV B).length ≤ 1 := by cases B <;> simp [bestV]
          refine g_var rfl ⟨bl, l6, _, _, rfl, rfl, eb6, e6, n6b, by rw [sizeLine_eq]; simp; omega, ?_⟩
          have c7 : Ch K [bl, fl] H6 (upd H6 bl (.lst [.int (costE E s E.length)])) := Ch.wrL eb6 (by simp)
          have e7 : (upd H6 bl (.lst [.int (costE E s E.length)])) bl = some (.lst [.int (costE E s E.length)]) := upd_same
          have ef7 : (upd H6 bl (.lst [.int (costE E s E.length)])) fl = some (.lst rs) := by rw [upd_ne (Ne.symm nbf)]; exact c6.up _ _ ef5 (by simp)
          have nfl : ∀ {Z : Hp} {p : Addr}, Z full = some (.lst (iv (fullL E s))) → True := fun _ => trivial
          have nfb : full ≠ bl := fun z => by
            have h1 := ne_of_none (c12.trans c3 |>.up _ _ eb (by simp)) n4
            exact h1 z.symm
          have nff : full ≠ fl := fun z => by
            have h1 := ne_of_none (c12.trans c3 |>.up _ _ ef (by simp)) n4
            exact h1 z.symm
          have ex7 : (upd H6 bl (.lst [.int (costE E s E.length)])) full = some (.lst (iv (fullL E s))) := by rw [upd_ne nfb]; exact c6.up _ _ e5 (by simp)
          generalize upd H6 bl (.lst [.int (costE E s E.length)]) = H7 at c7 e7 ef7 ex7 ⊢
          walk_at "g"
          refine ⟨szle (by simp), fun l8 H8 n8 e8 c8 => ?_⟩
          have ef8 := c8.up _ _ ef7 (by simp)
          have n8f : fl ≠ l8 := ne_of_none ef7 n8
          have lrs := fr.len
          refine g_var rfl ⟨fl, l8, _, _, rfl, rfl, ef8, e8, n8f, by rw [sizeLine_eq]; simp; omega, ?_⟩
          have c9 : Ch K [bl, fl] H8 (upd H8 fl (.lst [])) := Ch.wrL ef8 (by simp)
          rw [if_pos hm]
          refine ⟨[], rfl, ((((c15.mono (by simp)).trans (c6.mono (by simp))).trans c7).trans (c8.mono (by simp))).trans c9, ?_, ?_, upd_same, .nil⟩
          · rw [upd_ne nff]; exact c8.up _ _ ex7 (by simp)
          · rw [upd_ne nbf]; exact c8.up _ _ e7 (by simp)
        · walk_at "g"
          rw [if_neg (by rw [hm]; exact Bool.false_ne_true)]
          refine ⟨rs, rfl, c15.mono (by simp), e5, ?_, ef5, fr5⟩
          rw [eb5]
          cases B with
          | none => simp [metR] at hm
          | some b =>
            have h1 := le b rfl
            simp [metR] at hm
            unfold metB bestV
            rw [show costE E s E.length = b by omega]
      · rintro _ H5 ⟨rs', rfl, c5, e5, eb5, ef5, fr5⟩
        have hz5 : rs'.length < sizeLine := by
          rw [fr5.len, sizeLine_eq]
          split
          · simp
          · omega
        walk_at "g"
        refine q _ (rs' ++ [.ref full]) (c5.trans (Ch.wrL ef5 (by simp))) ?_ upd_same ?_
        · rw [upd_ne nbf]; exact eb5
        · have nf : full ∉ [bl, fl] := by
            have h1 := ne_of_none (c12.trans c3 |>.up _ _ eb (by simp)) n4
            have h2 := ne_of_none (c12.trans c3 |>.up _ _ ef (by simp)) n4
            simp [Ne.symm h1, Ne.symm h2]
          have cw : Ch K [bl, fl] H5 (upd H5 fl (.lst (rs' ++ [.ref full]))) := Ch.wrL ef5 (by simp)
          exact (fr5.ch cw (by simp)).snoc (cw.up _ _ e5 nf) nf
end
end K3
end

section
set_option maxRecDepth 100000
set_option maxHeartbeats 1000000
open Bq L2
/-- one step of a reading; what is left are side goals and places to think -/
local macro_rules | `(tactic| walk_at "g1") => `(tactic| first
  | with_reducible refine' g_seq ?_ | with_reducible refine' g_asg ?_ | with_reducible refine' g_drop ?_ | with_reducible refine' g_ret ?_ | with_reducible refine' g_ifS ?_ | with_reducible refine' g_asgG ?_
  | ((with_reducible refine' g_var ?hv ?_); (case hv => rfl))
  | with_reducible refine' g_c ?_ | with_reducible refine' g_op ?_ | with_reducible refine' g_un ?_ | with_reducible refine' g_I0 ?_ | with_reducible refine' g_U ?_
  | with_reducible refine' g_test ?_ | with_reducible refine' g_tB ?_ | with_reducible refine Exists.intro _ (And.intro rfl ?_) 
  | ((with_reducible refine' g_andP ?ha ?hb ?_); (case ha => intro R q; walk_at "g"; exact q); (case hb => intro R q; walk_at "g"; exact q))
  | ((with_reducible refine' g_orP ?ha ?hb ?_); (case ha => intro R q; walk_at "g"; exact q); (case hb => intro R q; walk_at "g"; exact q))
  | with_reducible refine' g_and ?_ | with_reducible refine' g_or ?_ | with_reducible refine' g_not ?_
  | with_reducible refine' g_andV ?_ | with_reducible refine' g_orV ?_ | with_reducible refine' g_notV ?_ | with_reducible refine' g_if ?_ | with_reducible refine' g_nil ?_ | with_reducible refine' g_cons ?_
  | with_reducible refine' g_tup ?_ | with_reducible refine' g_lst ?_ | with_reducible refine' g_CB ?_ | with_reducible refine' g_Fn ?_ | with_reducible refine' g_next ?_ | with_reducible refine' g_retN ?_
  | with_reducible refine' g_name ?_ | with_reducible refine' g_sub ?_
  | ((with_reducible refine' g_ixL ?hs ?he ?_); (case hs => walk_at "lk"); (case he => walk_at "at"))
  | ((with_reducible refine' g_ixT ?hs ?he ?_); (case hs => walk_at "lk"); (case he => walk_at "at"))
  | ((with_reducible refine' g_setL ?hs ?he ?_); (case hs => walk_at "hp"); (case he => rfl))
  | ((with_reducible refine' g_app ?hs ?hz ?_); (case hs => walk_at "hp"); (case hz => walk_at "sz"))
  | ((with_reducible refine' ⟨_, _, rfl, Or.inl ?hs, ?_⟩); (case hs => walk_at "lk"))
  | ((with_reducible refine' ⟨_, _, rfl, Or.inr ?hs, ?_⟩); (case hs => walk_at "lk"))
  | with_reducible refine' g_BM ?_ | with_reducible refine' g_BM0 ?_ | ((with_reducible refine' g_tyL ?hs ?_); (case hs => walk_at "lk"))
  | with_reducible refine' g_sl ?_ | with_reducible refine' g_noPart ?_ | with_reducible refine' g_part ?_
  | ((with_reducible refine' g_inT ?hs ?fx ?fs ?_); (case hs => walk_at "lk"); (case fx => rfl); (case fs => rfl))
  | with_reducible refine' g_pair ?_ | with_reducible refine' g_pair0 ?_ | with_reducible refine' g_disp ?_
  | with_reducible refine' g_for ?_ | with_reducible refine' g_tupC ?_ | with_reducible refine' g_lstC ?_ | ((with_reducible refine' g_lens ?_)) | with_reducible refine' g_dg ?_ | with_reducible refine' g_lc ?_ | with_reducible refine' g_rng1 ?_ | with_reducible refine' g_ilist ?_ | with_reducible refine' g_itup ?_
  | ((with_reducible refine' ⟨_, _, rfl, ?hd, ?_⟩); (case hd => walk_at "dg"))
  | ((with_reducible refine' g_eqNil ?hs ?hz ?_); (case hs => walk_at "lk"); (case hz => walk_at "lk"))
  | ((with_reducible refine' g_neNil ?hs ?hz ?_); (case hs => walk_at "lk"); (case hz => walk_at "lk"))
  | with_reducible refine Or.inl ⟨_, rfl, ?_⟩
  | with_reducible refine Or.inr ⟨_, rfl, ?_⟩
  | ((with_reducible refine' g_eq ?hs ?_); (case hs => rfl))
  | ((with_reducible refine' g_ne ?hs ?_); (case hs => rfl))
  | ((with_reducible refine' g_I ?hc ?_); (case hc => walk_at "ar")))
/-- arithmetic's side conditions -/
local macro_rules | `(tactic| walk_at "ar") => `(tactic| (first
  | (show (0 : Int) < _; first | omega | decide) | (show (0 : Int) < _ ∧ _; constructor <;> omega) | (show ¬ (_ : Int) = _; omega) | (show (_ : Int) ≠ _ ∧ _; constructor <;> omega)
  | (show (-(2 ^ 64) < _ ∧ _) ∨ _; (first | (left; constructor <;> omega) | (right; constructor <;> omega))) | (show (0 : Int) ≤ _ ∧ _ ∧ _; refine ⟨by omega, by omega, by decide⟩)))
/-- what stands at an index -/
local macro_rules | `(tactic| walk_at "at") => `(tactic| first | rfl | assumption)
/-- what stands at an address -/
local macro_rules | `(tactic| walk_at "hp") => `(tactic| first | assumption | exact upd_same | ((refine' Eq.trans (upd_ne ?hn) ?hm); (case hm => walk_at "hp"); (case hn => walk_at "ne")))
/-- two places are two -/
local macro_rules | `(tactic| walk_at "ne") => `(tactic| first
  | assumption | exact Ne.symm (by assumption)
  | ((refine' ne_of_none ?ha ?hb); (case hb => assumption); (case ha => walk_at "hp")) | ((refine' Ne.symm (ne_of_none ?ha ?hb)); (case hb => assumption); (case ha => walk_at "hp")))
/-- what a dict tells -/
local macro_rules | `(tactic| walk_at "dg") => `(tactic| first | assumption)
/-- a length -/
local macro_rules | `(tactic| walk_at "sz") => `(tactic| first | (show _ ≤ sizeLine; decide) | (show _ < sizeLine; decide) | assumption | exact szlt (by simp) | exact szle (by simp))
/-- a list or tuple that stands -/
local macro_rules | `(tactic| walk_at "lk") => `(tactic| first | assumption | exact SqL.of (by assumption) | exact SqT.of (by assumption) | exact SqL.of upd_same | exact SqT.of upd_same | (refine' FzL.sq ?hm; (case hm => walk_at "fz")))
/-- a list that nobody writes -/
local macro_rules | `(tactic| walk_at "fz") => `(tactic| first | assumption | ((refine' FzL.uw ?hm ?hx); (case hx => walk_at "hp"); (case hm => walk_at "fz")) | ((refine' FzL.nw ?hm ?hx); (case hx => assumption); (case hm => walk_at "fz")))
/-- as far as it goes by itself -/
local macro_rules | `(tactic| walk_at "g") => `(tactic| repeat walk_at "g1")
/-- the body's reading, its places in short -/
local macro_rules | `(tactic| walk_at "go") => `(tactic| ((try dsimp only [cxOf, Cx.nox, Cx.wish]); walk_at "g"))
namespace K3
open PySem PySem.Spec PyProof.Rows L2 Bq
section
variable {P : Program} {w : World} {K : PySem.W.Frag} {mg : Str → Option Value} {base : Heap}
/-- further steps: dicts written, tuples taken apart -/
local macro_rules | `(tactic| walk_at "g1") => `(tactic| first
  | with_reducible refine' g_sdput ?_
  | ((with_reducible refine' g_gtup ?hs ?hl ?_); (case hs => walk_at "lk"); (case hl => rfl))
  | with_reducible refine' g_gcons ?_
  | with_reducible refine' g_gnil ?_
  | with_reducible refine' And.intro (Eq.refl V.non) ?_
  | with_reducible refine' g_isN ?_
  | ((with_reducible refine' g_chainR ?ha ?hb ?hc ?_); (case ha => intro R q; walk_at "g"; exact q); (case hb => intro R q; walk_at "g"; exact q); (case hc => intro R q; walk_at "g"; exact q))
  | with_reducible refine' g_notN ?_)
/-- what the law's dict tells -/
local macro_rules | `(tactic| walk_at "dg") => `(tactic| first
  | assumption
  | exact LH.gfuns (by assumption)
  | exact LH.gsaid (by assumption)
  | exact LH.gcells (by assumption)
  | exact LH.gfuel (by assumption)
  | exact LH.gend (by assumption)
  | exact LH.gcalls (by assumption)
  | exact LH.gnames (by assumption)
  | exact LH.gwaits (by assumption)
  | exact LH.gworth (by assumption)
  | exact LH.glook (by assumption))
/-- a test that fails, that holds, by itself -/
local macro_rules | `(tactic| walk_at "no") => `(tactic| ((refine tkF rfl ?_); walk_at "g"))
local macro_rules | `(tactic| walk_at "yes") => `(tactic| ((refine tkT rfl ?_); walk_at "g"))
local macro_rules | `(tactic| walk_at "g1") => `(tactic| first
  | with_reducible refine' g_catS ?_
  | with_reducible refine' g_mulS ?_
  | with_reducible refine' g_rev ?_)
/-- numbers in lists, more -/
local macro_rules | `(tactic| walk_at "g1") => `(tactic| first
  | with_reducible refine' g_augS ?_
  | with_reducible refine' g_ipI ?_
  | with_reducible refine' g_revL ?_
  | ((with_reducible refine' g_getL ?hs ?he ?_); (case hs => walk_at "lk"); (case he => walk_at "at"))
  | with_reducible refine' g_enum ?_)
open Fl
/-! ### the tries -/
def cw (E : List LE) : Nat → Nat → Nat
  | 0, _ => 1
  | d + 1, i => (if quE E i = true then 1 else 6) * cw E d (i + 1)
theorem cw_le (E : List LE) : ∀ d i, cw E d i ≤ 6 ^ ((List.range' i d).filter fun j => !quE E j).length
  | 0, _ => by simp [cw]
  | d + 1, i => by
    have ih := cw_le E d (i + 1)
    rw [List.range'_succ, List.filter_cons, cw]
    cases q : quE E i with
    | true => simpa using ih
    | false =>
      simp only [Bool.not_false, if_true, List.length_cons, Bool.false_eq_true, if_false]
      rw [Nat.pow_succ]
      omega
theorem cw_few {E : List LE} (h : (triedL E).length ≤ 6) : cw E (E.length - 1) 0 ≤ 46656 := by
  have h1 := cw_le E (E.length - 1) 0
  have h2 : ((List.range' 0 (E.length - 1)).filter fun j => !quE E j).length ≤ (triedL E).length := by
    unfold triedL
    refine (List.Sublist.filter _ ?_).length_le
    rw [List.range_eq_range']
    exact List.range'_sublist_right.mpr (by omega)
  have h3 : (6 : Nat) ^ ((List.range' 0 (E.length - 1)).filter fun j => !quE E j).length ≤ 6 ^ 6 := Nat.pow_le_pow_right (by decide) (by omega)
  have h4 : (6 : Nat) ^ 6 = 46656 := by decide
  omega
theorem kids_le : ∀ {E : List LE} {i : Nat} {e : LE}, E[i]? = some e → e.kids.length ≤ (kidsAll E).length
  | a :: r, 0, e, h => by
    simp at h
    subst h
    simp [kidsAll]
  | a :: r, i + 1, e, h => by
    have := kids_le (E := r) (i := i) (e := e) (by simpa using h)
    simp only [kidsAll, List.length_append]
    omega
theorem low_bound {E : List LE} (o : OkLE E) {s : Nat → Int} {j : Nat} (h : ∀ k, k < j → s k ≤ 6 * ((k : Int) + 1)) : lowE E s j ≤ 6 * (j : Int) + 1 := by
  have h1 : low1 E s j ≤ 6 * (j : Int) + 1 := by
    unfold low1
    refine mx_le (by omega) fun a ha => ?_
    obtain ⟨k, hk, rfl⟩ := List.mem_map.mp ha
    have hk := (kids_lt o hk).1
    have := h k hk
    omega
  have h2 : mx (((loudsOf E).filter fun k => decide (k < j)).map s) ≤ 6 * (j : Int) + 1 := by
    refine mx_le (by omega) fun a ha => ?_
    obtain ⟨k, hk, rfl⟩ := List.mem_map.mp ha
    rw [List.mem_filter] at hk
    have hk := of_decide_eq_true hk.2
    have := h k hk
    omega
  unfold lowE
  split <;> omega
theorem tr_bound {E : List LE} (o : OkLE E) {s : Nat → Int} {i : Nat} (T : TrE E s i) : ∀ j, j < i → s j ≤ 6 * ((j : Int) + 1) := by
  intro j
  induction j using Nat.strongRecOn with
  | ind j ih =>
    intro hj
    have lb := low_bound o (s := s) (j := j) fun k hk => ih k hk (by omega)
    have t := T j hj
    unfold triesE at t
    split at t
    · simp at t; omega
    · split at t
      · obtain ⟨a, ha, e⟩ := List.mem_map.mp t
        have := List.mem_range.mp ha
        omega
      · simp at t; omega
theorem hv_snoc (x : Nat → Int) (i : Nat) (s : Int) : hv i x ++ [V.int s] = hv (i + 1) (fupd x i s) := by
  unfold hv
  rw [List.range_succ, List.map_append]
  congr 1
  · refine List.map_congr_left fun v hv => ?_
    have := List.mem_range.mp hv
    rw [fupd_ne (by omega)]
  · simp [fupd_same]
theorem iv_nil (l : List Int) : (iv l).isEmpty = l.isEmpty := by cases l <;> rfl
theorem niv_nil (l : List Nat) : (niv l).isEmpty = l.isEmpty := by cases l <;> rfl
theorem iv_in {l : List Int} {i : Nat} {y : V} (h : (iv l)[i]? = some y) : ∃ k, l[i]? = some k ∧ y = .int k := by
  unfold iv at h
  rw [List.getElem?_map] at h
  cases e : l[i]? with
  | none => rw [e] at h; cases h
  | some k => rw [e] at h; cases h; exact ⟨k, rfl, rfl⟩
theorem rgV_six (a : Int) : rgV a (a + 6) = iv ((List.range 6).map fun j => a + ((j : Nat) : Int)) := by
  unfold rgV iv
  rw [show (a + 6 - a).toNat = 6 by omega, List.map_map]
  rfl
theorem tries_len {E : List LE} (o : OkLE E) (kd : ∃ k, k ∈ kidsE E (E.length - 1)) {s : Nat → Int} {i : Nat} (hi : i < E.length) : (triesE E s i).length * cw E (E.length - 2 - i) (i + 1) ≤ cw E (E.length - 1 - i) i := by
  by_cases c : i < E.length - 1
  · rw [show E.length - 1 - i = (E.length - 2 - i) + 1 by omega, cw]
    unfold triesE
    split
    · simp
    · simp [c]
  · have e : i = E.length - 1 := by omega
    obtain ⟨k, hk⟩ := kd
    rw [← e] at hk
    unfold triesE
    rw [if_neg (by rw [qu_kids hk]; exact Bool.false_ne_true), if_neg c, show E.length - 2 - i = 0 by omega, show E.length - 1 - i = 0 by omega]
    simp [cw]
theorem step_at {E : List LE} (o : OkLE E) {s : Nat → Int} {i : Nat} {v : Int} : stepC E (fupd s i v) i = (((kidsE E i).filter fun k => decide (0 ≤ s k)).map fun k => v - s k - 1).sum := by
  unfold stepC
  have h : ∀ k ∈ kidsE E i, fupd s i v k = s k := fun k hk => fupd_ne (by have := kids_lt o hk; omega)
  have e : ((kidsE E i).filter fun k => decide (0 ≤ fupd s i v k)) = (kidsE E i).filter fun k => decide (0 ≤ s k) := List.filter_congr fun k hk => by rw [h k hk]
  rw [e]
  congr 1
  refine List.map_congr_left fun k hk => ?_
  rw [List.mem_filter] at hk
  rw [fupd_same, h k hk.1]
def okB (E : List LE) (c : Int) : Option Int → Bool
  | none => true
  | some b => decide (c ≤ b)
def spAll (K : PySem.W.Frag) (n : Nat) : Sp := fun vs H Q _ => ∃ tl sl bl fl es E s i B rs F, vs = [.ref tl, .ref sl, .int (costE E s i), .ref bl, .ref fl] ∧ SqL K H tl es ∧ TreeR K H [bl, fl] es E ∧ OkLE E ∧ OkRow E ∧ E.length ≤ 60 ∧ (∃ k, k ∈ kidsE E (E.length - 1)) ∧
  i < E.length ∧ E.length ≤ i + n ∧ H sl = some (.lst (hv i s)) ∧ sl ∉ [bl, fl] ∧ tl ∉ [bl, fl] ∧ TrE E s i ∧ H bl = some (.lst (bestV B)) ∧ H fl = some (.lst rs) ∧ FoundR K H [bl, fl] rs F ∧ bl ≠ fl ∧ F.length + cw E (E.length - 1 - i) i ≤ 1000000 ∧ Sound E B F ∧
  ∀ H' B' rs' F', Ch K [bl, fl] H H' → H' bl = some (.lst (bestV B')) → H' fl = some (.lst rs') → FoundR K H' [bl, fl] rs' F' → RelE E s i B F B' F' → F'.length ≤ F.length + cw E (E.length - 1 - i) i → Q .non H'
/-- what holds when the first j are tried -/
def AllI (K : PySem.W.Frag) (H H7 : Hp) (bl fl : Addr) (E : List LE) (s : Nat → Int) (i : Nat) (B : Option Int) (F : List (List Int)) (j : Nat) (H' : Hp) : Prop := ∃ B1 rs1 F1, Ch K [bl, fl] H H' ∧ Ch K [bl, fl] H7 H' ∧ H' bl = some (.lst (bestV B1)) ∧ H' fl = some (.lst rs1) ∧ FoundR K H' [bl, fl] rs1 F1 ∧ Sound E B1 F1 ∧
  (∀ t, Cov E B F t → Cov E B1 F1 t) ∧ (∀ t, TrE E t E.length → (∀ k, k < i → t k = s k) → (∃ m : Nat, m < j ∧ (triesE E s i)[m]? = some (t i)) → Cov E B1 F1 t) ∧ F1.length ≤ F.length + j * cw E (E.length - 2 - i) (i + 1)
theorem all_step (C : Cn w K mg base) (k : Nat) (hk : 3 ≤ k) (n : Nat) {sp : Sp} (F_law_all : Fn P w K mg base CX0 k "_law_all" ["_law_tree_here", "_law_some", "_law_many", "_law_best", "_law_found"] sp)
    (hsp : ∀ m, n = m + 1 → ∀ vs H Q E, spAll K m vs H Q E → sp vs H Q E) : Fn P w K mg base CX0 (k + 1) "_law_all" ["_law_tree_here", "_law_some", "_law_many", "_law_best", "_law_found"] (spAll K n) := C.f_law_all fun fd F => by
  have F_law_loud : Fn P w K mg base CX0 1 "_law_loud" ["_law_tree_here"] (spLLoud K) := fn_lloud C
  have F_law_met : Fn P w K mg base CX0 3 "_law_met" ["_law_tree_here", "_law_here", "_law_many", "_law_best", "_law_found"] (spMet K) := fn_met C
  refine F.ok (CX := CX0) sc_law_all (fun vs H Q E h => ?_) (fun cdv A outer s H vs Q E hr h => ?_)
  · obtain ⟨tl, sl, bl, fl, es, E, s, i, B, rs, F, rfl, _⟩ := h
    rfl
  · obtain ⟨tl, sl, bl, fl, es, E, s, i, B, rs, F, rfl, st, tr, o, okr, lE, kd, iE, iN, es0, sN, tN, T, eb, ef, fr, nbf, lF, S, q⟩ := h
    have hu := hu_of (hr.mono (show 1 ≤ k by omega))
    have hu0 : ∀ {A : Around}, A.units + 1 < cLine → A.units < cLine := fun h => by omega
    replace hu0 := hu0 hu
    refine ⟨_, PSs.nox (pss_cons (ps_set (i := 5) sc_law_all.nd rfl (Or.inr rfl) (pe_callB call_len_seq (by rfl) (C.m_len) PySem.boot_len (pa_cons (pv 1) pa_nil)))
      (pss_cons (ps_set (i := 6) sc_law_all.nd rfl (Or.inl rfl) (pe_ix ix_tup (pe_ix ix_list (pv 0) (pv 5) (fun _ _ => rfl)) pe_int (fun _ _ => rfl)))
      (pss_cons (ps_set (i := 7) sc_law_all.nd rfl (Or.inl rfl) (pe_cmpR op_in_seq (pe_ix ix_tup (pe_ix ix_tup (pe_ix ix_list (pv 0) (pv 5) (fun _ _ => rfl)) pe_int (fun _ _ => rfl)) pe_int (fun _ _ => rfl)) (pe_tupC (pa_cons pe_str (pa_cons pe_str (pa_cons pe_str (pa_cons pe_str pa_nil))))) (by rfl)))
      (pss_cons (ps_set (i := 8) sc_law_all.nd rfl (Or.inl rfl) (pe_callB (call_maxL rfl) (by rfl) (C.m_max) (by decide +kernel) (pa_cons (pe_op op_catL (pe_lstC (pa_cons pe_int pa_nil)) (pe_lc (own := [("_law_kid", 13)]) (g := gName 13) (tt := tYes) rfl sc_law_all.nd (pi_list (pv 6)) (blkOk_by (own := [("_law_kid", 13)]) (N := ["_law_tree_here", "_law_some", "_law_many", "_law_best", "_law_found", "_law_number", "_law_kids", "_law_loud_here", "_law_low", "_law_tries", "_law_stage", "_law_here", "_law_more", "_law_kid", "_law_one"]) (sc := defScope s_law_all) (by decide +kernel)) (fun _ _ _ _ _ => pg_name (i := 13) sc_law_all.nd rfl (Or.inl rfl)) (fun _ _ _ _ _ => pts_nil) (fun _ _ _ _ _ => (pe_op op_add pe_int (pe_callB (call_max2 rfl) (by rfl) (C.m_max) (by decide +kernel) (pa_cons pe_int (pa_cons (pe_ix (ix_listK K) (pv 1) (pv 13) (fun _ _ => rfl)) pa_nil))))))) pa_nil)))
      (Evl.pss_cut (ps_if (pt_val (pv 7)) (pss_one (ps_set (i := 8) sc_law_all.nd rfl (Or.inl rfl) (pe_callB (call_maxL rfl) (by rfl) (C.m_max) (by decide +kernel) (pa_cons (pe_op op_catL (pe_lstC (pa_cons (pv 8) pa_nil)) (pe_lc (own := [("_law_one", 14)]) (g := gName 14) rfl sc_law_all.nd (pi_list (pe_fn F_law_loud (rmm hr) (by rfl) pass0 (pa_cons (pv 0) pa_nil))) (blkOk_by (own := [("_law_one", 14)]) (N := ["_law_tree_here", "_law_some", "_law_many", "_law_best", "_law_found", "_law_number", "_law_kids", "_law_loud_here", "_law_low", "_law_tries", "_law_stage", "_law_here", "_law_more", "_law_kid", "_law_one"]) (sc := defScope s_law_all) (by decide +kernel)) (fun _ _ _ _ _ => pg_name (i := 14) sc_law_all.nd rfl (Or.inl rfl)) (fun _ _ _ _ _ => pts_one (pt_cmpR op_lt (pv 14) (pv 5) (nomark _))) (fun _ _ _ _ _ => (pe_ix (ix_listK K) (pv 1) (pv 14) (fun _ _ => rfl))))) pa_nil)))) pss_nil)
      (pss_cons (ps_set (i := 9) sc_law_all.nd rfl (Or.inl rfl) (pe_mid (pe_ifExp (pt_cmpR op_lt (pv 5) (pe_op op_sub (pe_callB call_len_seq (by rfl) (C.m_len) PySem.boot_len (pa_cons (pv 0) pa_nil)) pe_int) (nomark _)) (pe_listRg rfl (by rfl) (C.m_list) (prg_2 (by rfl) (C.m_range) (pv 8) (pe_op op_add (pv 8) pe_int))) (pe_lstC (pa_cons (pv 8) pa_nil)))))
      (Evl.pss_cut (ps_if (pt_mid (PW.pt (pw_and (pt_cmpR (op_eqNil hu0) (pv 6) (pe_lstC pa_nil) (nomark _)) (pw_and1 (pt_not (pt_val (pv 7))))))) (pss_one (ps_set (i := 9) sc_law_all.nd rfl (Or.inl rfl) (pe_lstC (pa_cons (pe_un un_neg pe_int) pa_nil)))) pss_nil)
      (pss_one (ps_for PassesOwn.never rfl (pi_list (pv 9)) (pg_name (i := 10) sc_law_all.nd rfl (Or.inr rfl)) (pss_cons (ps_set (i := 11) sc_law_all.nd rfl (Or.inl rfl) (pe_op op_catL (pv 1) (pe_lstC (pa_cons (pv 10) pa_nil))))
      (pss_cons (ps_set (i := 12) sc_law_all.nd rfl (Or.inl rfl) (pe_op op_add (pv 2) (pe_callB (cr_sum rfl) (by rfl) (C.m_sum) (by decide +kernel) (pa_cons (pe_lc (own := [("_law_kid", 13)]) (g := gName 13) rfl sc_law_all.nd (pi_list (pv 6)) (blkOk_by (own := [("_law_kid", 13)]) (N := ["_law_tree_here", "_law_some", "_law_many", "_law_best", "_law_found", "_law_number", "_law_kids", "_law_loud_here", "_law_low", "_law_tries", "_law_stage", "_law_here", "_law_more", "_law_kid", "_law_one"]) (sc := defScope s_law_all) (by decide +kernel)) (fun _ _ _ _ _ => pg_name (i := 13) sc_law_all.nd rfl (Or.inl rfl)) (fun _ _ _ _ _ => pts_one (pt_cmpR op_ge (pe_ix (ix_listK K) (pv 1) (pv 13) (fun _ _ => rfl)) pe_int (nomark _))) (fun _ _ _ _ _ => (pe_op op_sub (pe_op op_sub (pv 10) (pe_ix (ix_listK K) (pv 1) (pv 13) (fun _ _ => rfl))) pe_int))) pa_nil))))
      (pss_one (ps_if (pt_mid (PW.pt (pw_or (pt_cmpR (op_eqNil hu0) (pv 3) (pe_lstC pa_nil) (nomark _)) (pw_or1 (pt_cmpR op_le (pv 12) (pe_ix ix_list (pv 3) pe_int (fun _ _ => rfl)) (nomark _)))))) (pss_one (ps_if (pt_cmpR op_lt (pv 5) (pe_op op_sub (pe_callB call_len_seq (by rfl) (C.m_len) PySem.boot_len (pa_cons (pv 0) pa_nil)) pe_int) (nomark _)) (pss_one (ps_expr (pe_fn F_law_all (rmm hr) (by rfl) pass0 (pa_cons (pv 0) (pa_cons (pv 11) (pa_cons (pv 12) (pa_cons (pv 3) (pa_cons (pv 4) pa_nil)))))))) (pss_one (ps_expr (pe_fn F_law_met (rmm hr) (by rfl) pass0 (pa_cons (pv 0) (pa_cons (pv 11) (pa_cons (pv 12) (pa_cons (pv 3) (pa_cons (pv 4) pa_nil)))))))))) pss_nil))))))))))))), ?_⟩
    have le : es.length = E.length := tr.len
    have hi : i < es.length := by omega
    obtain ⟨e, ea, rv, ka, he, hva, hea, rr, hka, kN⟩ := tr.at (List.getElem?_eq_getElem hi)
    have ee : entE E i = e := by
      have := entE_at iE
      rw [he] at this
      exact (Option.some.inj this).symm
    have ek : kidsE E i = e.kids := by unfold kidsE; rw [ee]
    obtain ⟨w, r, hw⟩ := okr e (List.mem_of_getElem? he)
    have eld : ldE E i = loudW w := by unfold ldE; rw [ee, hw]; rfl
    rw [hw] at rr
    obtain ⟨ra, rvs, rfl, hra, rrs⟩ := rr.tupI
    obtain ⟨r0, rvs2, rfl, q0, _⟩ := rrs.consI
    obtain rfl := q0.strI
    have g1 : atI es (((hv i s).length : Nat) : Int) = some (V.ref ea) := by
      rw [hv_len]
      exact atI_nat (by rw [List.getElem?_eq_getElem hi, hva])
    have g1b : atI [V.ref ra, V.ref ka] 1 = some (V.ref ka) := rfl
    have g2 : atI [V.ref ra, V.ref ka] 0 = some (V.ref ra) := atI_nat (j := 0) rfl
    have g3 : atI (V.str w :: rvs2) 0 = some (V.str w) := atI_nat (j := 0) rfl
    have ss := SqL.of (K := K) es0
    walk_at "go"
    refine ⟨szle (by simp), fun p1 H1 n1 e1 c1 => ?_⟩
    walk_at "g"
    refine ⟨szle (by simp), fun z1 H2 n2 e2 c2 => ?_⟩
    have c02 := c1.trans c2
    have ska2 := SqL.of (K := K) (c02.up _ _ hka (by simp))
    have ss2 := c02.sqL ss (by simp)
    have kal : (kidsAll E).length = E.length - 1 := by rw [o.perm.length_eq, List.length_range]
    have kle := kids_le he
    walk_at "g"
    refine ⟨⟨_, ska2⟩, fun G nG => ?_⟩
    refine lc_it (walk_list (xs := niv e.kids)) (fun j H' => Ch K [] H2 H' ∧ H' G = some (.lst (iv ((e.kids.take j).map fun k => 1 + max 0 (s k))))) ⟨Ch.new nG, by rw [upd_same, List.take_zero]; rfl⟩ (fun i H' _ p => p.1.sqL ska2 (by simp)) ?_ ?_
    · rintro j y _ H3 hj ⟨c3, d3⟩ ⟨rfl, hy⟩
      obtain ⟨kd1, hk1, rfl⟩ := niv_at hy
      have hki := o.ah i e he kd1 (List.mem_of_getElem? hk1)
      have g4 := atI_nat (hv_at (h := s) (show kd1 < i by omega))
      have ss3 := c3.sqL ss2 (by simp)
      have hz : (iv ((e.kids.take j).map fun k => 1 + max 0 (s k))).length < sizeLine := by
        rw [iv_len, List.length_map, List.length_take, sizeLine_eq]
        omega
      walk_at "g"
      refine ⟨rfl, ?_⟩
      simp only [tYes, ↓reduceIte]
      walk_at "g"
      refine ⟨_, _, rfl, ?_⟩
      walk_at "g"
      refine ⟨_, d3, hz, Ch.wrN c3 nG d3 rfl, ?_⟩
      rw [upd_same, take_snoc hk1, List.map_append, show (if s kd1 > 0 then s kd1 else 0) = max 0 (s kd1) by split <;> omega]
      simp [iv]
    · rintro H3 ⟨c3, d3⟩
      rw [niv_len, List.take_length] at d3
      walk_at "g"
      refine ⟨z1, G, [.int 0], _, rfl, rfl, c3.up _ _ e2 (by simp), d3, by rw [iv_len, List.length_map, sizeLine_eq]; simp; omega, fun p2 H4 n4 e4 c4 => ?_⟩
      walk_at "g"
      refine ⟨p2, 0 :: e.kids.map (fun k => 1 + max 0 (s k)), rfl, SqL.of (by rw [e4]; simp [iv]), by simp, fun mm hm1 hm2 => ?_⟩
      have hmm : mm = low1 E s i := by
        have := mx_is (Int.le_refl 0) hm1 hm2
        have p0 := mx_pos (e.kids.map fun k => 1 + max 0 (s k))
        unfold low1
        rw [ek]
        omega
      subst hmm
      have c04 := (c02.trans c3).trans c4
      rw [hv_len]
      refine g_cut (Mid := fun σ' H' => σ' = [some (.ref tl), some (.ref sl), some (.int (costE E s i)), some (.ref bl), some (.ref fl), some (.int ((i : Nat) : Int)), some (.ref ka), some (.bl (loudW w)), some (.int (lowE E s i)), none, none, none, none, none, none] ∧ Ch K [] H H') ?_ ?_
      · walk_at "g"
        refine iteB (fun hl => ?_) (fun hl => ?_)
        · have hld : ldE E i = true := by rw [eld]; exact hl
          have st4 := c04.sqL st (by simp)
          have ss4 := c04.sqL ss (by simp)
          walk_at "g"
          refine ⟨szle (by simp), fun z2 H5 n5 e5 c5 => ?_⟩
          have c05 := c04.trans c5
          walk_at "g"
          refine ⟨tl, es, E, [bl, fl], rfl, c5.sqL st4 (by simp), tr.ch c05 (by simp), okr, by omega, fun H6 ll c6 n6 e6 => ?_⟩
          have c06 := c05.trans c6
          have sl6 := SqL.of (K := K) e6
          have ss6 := c06.sqL ss (by simp)
          walk_at "g"
          refine ⟨⟨_, sl6⟩, fun G2 nG2 => ?_⟩
          refine lc_it (walk_list (xs := niv (loudsOf E))) (fun j H' => Ch K [] H6 H' ∧ H' G2 = some (.lst (iv ((((loudsOf E).take j).filter fun k => decide (k < i)).map s)))) ⟨Ch.new nG2, by rw [upd_same, List.take_zero]; rfl⟩ (fun i H' _ p => p.1.sqL sl6 (by simp)) ?_ ?_
          · rintro j y _ H7 hj ⟨c7, d7⟩ ⟨rfl, hy⟩
            obtain ⟨kd1, hk1, rfl⟩ := niv_at hy
            have ss7 := c7.sqL ss6 (by simp)
            have lL := loudL_len E 0
            have hz : (iv ((((loudsOf E).take j).filter fun k => decide (k < i)).map s)).length < sizeLine := by
              have h1 := List.length_filter_le (fun k => decide (k < i)) ((loudsOf E).take j)
              rw [List.length_take] at h1
              rw [iv_len, List.length_map, sizeLine_eq]
              unfold loudsOf at h1 ⊢
              omega
            walk_at "g"
            refine ⟨rfl, ?_⟩
            rw [take_snoc hk1, List.filter_append, List.filter_cons, List.filter_nil]
            walk_at "g"
            by_cases hlt : kd1 < i
            · have g4 := atI_nat (hv_at (h := s) hlt)
              rw [if_pos (decide_eq_true (show ((kd1 : Nat) : Int) < ((i : Nat) : Int) by omega)), if_pos (decide_eq_true hlt)]
              walk_at "g"
              refine ⟨_, d7, hz, Ch.wrN c7 nG2 d7 rfl, ?_⟩
              rw [upd_same, List.map_append]
              simp [iv]
            · rw [if_neg (by simpa using hlt), if_neg (by simpa using hlt), List.append_nil]
              exact ⟨c7, d7⟩
          · rintro H7 ⟨c7, d7⟩
            rw [niv_len, List.take_length] at d7
            walk_at "g"
            have lL := loudL_len E 0
            have hz : (((loudsOf E).filter fun k => decide (k < i)).map s).length ≤ 60 := by
              have h1 := List.length_filter_le (fun k => decide (k < i)) (loudsOf E)
              rw [List.length_map]
              unfold loudsOf at h1 ⊢
              omega
            refine ⟨z2, G2, [.int (low1 E s i)], _, rfl, rfl, (c6.trans c7).up _ _ e5 (by simp), d7, by rw [iv_len, sizeLine_eq]; simp at hz ⊢; omega, fun p3 H8 n8 e8 c8 => ?_⟩
            walk_at "g"
            refine ⟨p3, low1 E s i :: ((loudsOf E).filter fun k => decide (k < i)).map s, rfl, SqL.of (by rw [e8]; simp [iv]), by simp, fun mm hm1 hm2 => ?_⟩
            have hmm : mm = lowE E s i := by
              unfold lowE
              rw [if_pos hld]
              exact mx_is (mx_pos _) hm1 hm2
            subst hmm
            exact ⟨rfl, (c06.trans c7).trans c8⟩
        · have hld : ldE E i = false := by rw [eld]; exact hl
          walk_at "g"
          have : low1 E s i = lowE E s i := by
            unfold lowE
            rw [if_neg (by rw [hld]; exact Bool.false_ne_true)]
          rw [this]
          exact ⟨rfl, c04⟩
      rintro _ H5 ⟨rfl, c5⟩
      have st5 := c5.sqL st (by simp)
      walk_at "g"
      refine g_midE (fun v H' => ∃ a, v = .ref a ∧ Ch K [] H H' ∧ H a = none ∧ H' a = some (.lst (iv (if i < E.length - 1 then (List.range 6).map (fun j => lowE E s i + ((j : Nat) : Int)) else [lowE E s i])))) ?_ ?_
      · walk_at "g"
        rw [le]
        refine iteB (fun h => ?_) (fun h => ?_)
        · have h := of_decide_eq_true h
          have lp := low_pos E s i
          have lb := low_bound o (s := s) (j := i) (tr_bound o T)
          unfold tLstRg tRg2
          walk_at "g"
          refine ⟨lowE E s i, lowE E s i + 6, rfl, rfl, RgOk.of_le (by omega) (by omega) (by omega) (by omega), fun p6 n6 => ?_⟩
          refine ⟨p6, rfl, c5.trans (Ch.new n6), c5.free n6 (by simp), ?_⟩
          rw [upd_same, if_pos (by omega), rgV_six]
        · have h := of_decide_eq_false h
          walk_at "g"
          refine ⟨szle (by simp), fun p6 H6 n6 e6 c6 => ?_⟩
          refine ⟨p6, rfl, c5.trans c6, c5.free n6 (by simp), ?_⟩
          rw [if_neg (by omega), e6]
          simp [iv]
      rintro _ H6 ⟨a0, rfl, c6, na0, ea0⟩
      refine g_cut (Mid := fun σ' H' => ∃ a0, σ' = [some (.ref tl), some (.ref sl), some (.int (costE E s i)), some (.ref bl), some (.ref fl), some (.int ((i : Nat) : Int)), some (.ref ka), some (.bl (loudW w)), some (.int (lowE E s i)), some (.ref a0), none, none, none, none, none] ∧ Ch K [] H H' ∧ H a0 = none ∧ H' a0 = some (.lst (iv (triesE E s i)))) ?_ ?_
      · refine g_ifS (g_mid (fun b H' => b = quE E i ∧ Ch K [] H6 H') ?_ ?_)
        · walk_at "g"
          refine ⟨szle (by simp), fun l7 H7 n7 e7 c7 => ?_⟩
          refine g_eqNil (SqL.of ((c6.trans c7).up _ _ hka (by simp))) (SqL.of e7) ?_
          have eq : quE E i = (e.kids.isEmpty && !loudW w) := by unfold quE; rw [ek, eld]
          refine ⟨_, rfl, ?_⟩
          rw [eq]
          refine iteB (fun h => ?_) (fun h => ?_)
          · have h2 : e.kids.isEmpty = true := by rw [← niv_nil]; exact h
            rw [h2]
            walk_at "g"
            refine ⟨?_, c7⟩
            simp
          · have h2 : e.kids.isEmpty = false := by rw [← niv_nil]; exact h
            rw [h2]
            exact ⟨rfl, c7⟩
        rintro r7 H7 ⟨rfl, c7⟩
        refine iteB (fun h => ?_) (fun h => ?_)
        · walk_at "g"
          refine ⟨szle (by simp), fun l8 H8 n8 e8 c8 => ?_⟩
          walk_at "g"
          refine ⟨(c6.trans c7).trans c8, (c6.trans c7).free n8 (by simp), ?_⟩
          unfold triesE
          rw [if_pos h, e8]
          rfl
        · walk_at "g"
          refine ⟨c6.trans c7, na0, ?_⟩
          unfold triesE
          rw [if_neg (by rw [h]; exact Bool.false_ne_true), c7.up _ _ ea0 (by simp)]
      rintro _ H7 ⟨a7, rfl, c7, na7, ea7⟩
      have sa7 := SqL.of (K := K) ea7
      have na7b : a7 ∉ [bl, fl] := by
        have h1 := ne_of_none eb na7
        have h2 := ne_of_none ef na7
        simp [Ne.symm h1, Ne.symm h2]
      walk_at "g"
      refine ⟨⟨_, sa7⟩, ?_⟩
      refine for_it (walk_list (xs := iv (triesE E s i))) (fun j σ' H' => ∃ x10 x11 x12, σ' = [some (.ref tl), some (.ref sl), some (.int (costE E s i)), some (.ref bl), some (.ref fl), some (.int ((i : Nat) : Int)), some (.ref ka), some (.bl (loudW w)), some (.int (lowE E s i)), some (.ref a7), x10, x11, x12, none, none] ∧
        AllI K H H7 bl fl E s i B F j H') ?_ ?_ ?_ ?_
      · refine ⟨none, none, none, rfl, B, rs, F, c7.mono (by simp), Ch.refl, c7.up _ _ eb (by simp), c7.up _ _ ef (by simp), fr.ch c7 (by simp), S, fun t h => h, fun t _ _ h => ?_, by omega⟩
        obtain ⟨m, hm, _⟩ := h
        omega
      · rintro j σ' H' _ ⟨_, _, _, _, _, _, _, _, c, _⟩
        exact c.sqL sa7 na7b
      · rintro j y σ _ H8 hj ⟨x10, x11, x12, rfl, B1, rs1, F1, c8, c78, eb8, ef8, fr8, S8, mono8, cov8, lF8⟩ ⟨rfl, hy⟩
        obtain ⟨v, hv1, rfl⟩ := iv_in hy
        have hvm : v ∈ triesE E s i := List.mem_of_getElem? hv1
        have es8 := c8.up _ _ es0 sN
        have ska8 := SqL.of (K := K) (c8.up _ _ hka kN)
        walk_at "g"
        refine ⟨szle (by simp), fun l9 H9 n9 e9 c9 => ?_⟩
        walk_at "g"
        refine ⟨sl, l9, _, _, rfl, rfl, c9.up _ _ es8 (by simp), e9, by rw [hv_len, sizeLine_eq]; simp; omega, fun hl Ha na ea ca => ?_⟩
        rw [hv_snoc] at ea
        have ssa := SqL.of (K := K) ((c9.trans ca).up _ _ es8 (by simp))
        have skaa := (c9.trans ca).sqL ska8 (by simp)
        walk_at "g"
        refine ⟨⟨_, skaa⟩, fun G nG => ?_⟩
        refine lc_it (walk_list (xs := niv e.kids)) (fun m H' => Ch K [] Ha H' ∧ H' G = some (.lst (iv (((e.kids.take m).filter fun k => decide (0 ≤ s k)).map fun k => v - s k - 1)))) ⟨Ch.new nG, by rw [upd_same, List.take_zero]; rfl⟩ (fun i H' _ p => p.1.sqL skaa (by simp)) ?_ ?_
        · rintro m y _ Hb hm ⟨cb, db⟩ ⟨rfl, hy⟩
          obtain ⟨kd1, hk1, rfl⟩ := niv_at hy
          have hki := o.ah i e he kd1 (List.mem_of_getElem? hk1)
          have g4 := atI_nat (hv_at (h := s) (show kd1 < i by omega))
          have ssb := cb.sqL ssa (by simp)
          have hz : (iv (((e.kids.take m).filter fun k => decide (0 ≤ s k)).map fun k => v - s k - 1)).length < sizeLine := by
            have h1 := List.length_filter_le (fun k => decide (0 ≤ s k)) (e.kids.take m)
            rw [List.length_take] at h1
            rw [iv_len, List.length_map, sizeLine_eq]
            omega
          rw [take_snoc hk1, List.filter_append, List.filter_cons, List.filter_nil]
          walk_at "g"
          refine ⟨rfl, ?_⟩
          walk_at "g"
          by_cases h0 : 0 ≤ s kd1
          · rw [if_pos (decide_eq_true h0), if_pos (decide_eq_true h0)]
            walk_at "g"
            refine ⟨_, db, hz, Ch.wrN cb nG db rfl, ?_⟩
            rw [upd_same, List.map_append]
            simp [iv]
          · rw [if_neg (by simpa using h0), if_neg (by simpa using h0), List.append_nil]
            exact ⟨cb, db⟩
        · rintro Hb ⟨cb, db⟩
          rw [niv_len, List.take_length] at db
          walk_at "g"
          refine ⟨G, _, rfl, SqL.of db, ?_⟩
          have hag : ∀ k, k < i → s k = fupd s i v k := fun k hk => (fupd_ne (by omega)).symm
          have hcost : costE E s i + ((e.kids.filter fun k => decide (0 ≤ s k)).map fun k => v - s k - 1).sum = costE E (fupd s i v) (i + 1) := by
            rw [cost_succ, step_at o, ek, cost_congr o hag]
          have T1 : TrE E (fupd s i v) (i + 1) := fun u hu => by
            by_cases e1 : u = i
            · rw [e1, fupd_same, ← tries_congr o hag]; exact hvm
            · exact tr_congr o hag T u (by omega)
          walk_at "g"
          rw [hcost]
          have c9b := (c9.trans ca).trans cb
          have cHb := c8.trans (c9b.mono (by simp))
          have c7b := c78.trans (c9b.mono (by simp))
          have ebb := c9b.up _ _ eb8 (by simp)
          have efb := c9b.up _ _ ef8 (by simp)
          have frb := fr8.ch c9b (by simp)
          have ehb := cb.up _ _ ea (by simp)
          have tl9 := tries_len o kd (s := s) iE
          have jl : (j + 1) * cw E (E.length - 2 - i) (i + 1) ≤ (triesE E s i).length * cw E (E.length - 2 - i) (i + 1) := Nat.mul_le_mul_right _ (by rw [iv_len] at hj; omega)
          have jl2 : (j + 1) * cw E (E.length - 2 - i) (i + 1) = j * cw E (E.length - 2 - i) (i + 1) + cw E (E.length - 2 - i) (i + 1) := Nat.succ_mul _ _
          have covP : ∀ {B2 : Option Int} {F2 : List (List Int)}, (∀ t, Cov E B1 F1 t → Cov E B2 F2 t) → (∀ t, TrE E t E.length → (∀ k, k < i + 1 → t k = fupd s i v k) → Cov E B2 F2 t) → ∀ t, TrE E t E.length → (∀ k, k < i → t k = s k) → (∃ m : Nat, m < j + 1 ∧ (triesE E s i)[m]? = some (t i)) → Cov E B2 F2 t := by
            intro B2 F2 m1 m2 t Tt ht ⟨m, hm, hmt⟩
            by_cases e1 : m = j
            · rw [e1, hv1] at hmt
              refine m2 t Tt fun k hk => ?_
              by_cases e2 : k = i
              · rw [e2, fupd_same]; exact (Option.some.inj hmt).symm
              · rw [fupd_ne e2]; exact ht k (by omega)
            · exact m1 t (cov8 t Tt ht ⟨m, by omega, hmt⟩)
          refine g_ifS (g_mid (fun b H' => b = okB E (costE E (fupd s i v) (i + 1)) B1 ∧ Ch K [] Hb H') ?_ ?_)
          · walk_at "g"
            refine ⟨szle (by simp), fun l5 H5 n5 e5 c5 => ?_⟩
            refine g_eqNil (SqL.of (c5.up _ _ ebb (by simp))) (SqL.of e5) ?_
            cases B1 with
            | none =>
              refine ⟨_, rfl, ?_⟩
              rw [if_pos (show (bestV none).isEmpty = true from rfl)]
              exact ⟨rfl, c5⟩
            | some b =>
              refine ⟨_, rfl, ?_⟩
              rw [if_neg (show ¬ ((bestV (some b)).isEmpty = true) from Bool.false_ne_true)]
              have eb5 := SqL.of (K := K) (c5.up _ _ ebb (by simp))
              have g0 : atI (bestV (some b)) 0 = some (.int b) := rfl
              walk_at "g"
              exact ⟨rfl, c5⟩
          rintro r5 Hc ⟨rfl, cc⟩
          have ebc := cc.up _ _ ebb (by simp)
          have efc := cc.up _ _ efb (by simp)
          have frc := frb.ch cc (by simp)
          have ehc := cc.up _ _ ehb (by simp)
          have cHc := cHb.trans (cc.mono (S' := [bl, fl]) (by simp))
          have c7c := c7b.trans (cc.mono (S' := [bl, fl]) (by simp))
          have hlN : hl ∉ [bl, fl] := by
            have h1 := ne_of_none (c9.up _ _ eb8 (by simp)) na
            have h2 := ne_of_none (c9.up _ _ ef8 (by simp)) na
            simp [Ne.symm h1, Ne.symm h2]
          refine iteB (fun hok => ?_) (fun hok => ?_)
          · have le1 : ∀ b, B1 = some b → costE E (fupd s i v) (i + 1) ≤ b := fun b hb => by
              rw [hb] at hok
              exact of_decide_eq_true hok
            have stc := cHc.sqL st tN
            have fin : ∀ {H' : Hp} {B2 : Option Int} {rs2 : List V} {F2 : List (List Int)}, Ch K [bl, fl] Hc H' → H' bl = some (.lst (bestV B2)) → H' fl = some (.lst rs2) → FoundR K H' [bl, fl] rs2 F2 → RelE E (fupd s i v) (i + 1) B1 F1 B2 F2 → F2.length ≤ F1.length + cw E (E.length - 2 - i) (i + 1) →
                AllI K H H7 bl fl E s i B F (j + 1) H' := by
              intro H' B2 rs2 F2 d1 d2 d3 d4 R d5
              exact ⟨B2, rs2, F2, cHc.trans d1, c7c.trans d1, d2, d3, d4, R.snd, fun t ht => R.mono t (mono8 t ht), covP R.mono R.cov, by rw [jl2]; omega⟩
            walk_at "g"
            rw [le]
            refine iteB (fun hlt => ?_) (fun hlt => ?_)
            · have hlt := of_decide_eq_true hlt
              obtain ⟨m, rfl⟩ : ∃ m, n = m + 1 := ⟨n - 1, by omega⟩
              walk_at "g"
              refine hsp m rfl _ _ _ _ ⟨tl, hl, bl, fl, es, E, fupd s i v, i + 1, B1, rs1, F1, rfl, stc, tr.ch cHc (by simp), o, okr, lE, kd, by omega, by omega, ehc, hlN, tN, T1, ebc, efc, frc, nbf, by rw [show E.length - 1 - (i + 1) = E.length - 2 - i by omega]; omega, S8, fun H' B2 rs2 F2 d1 d2 d3 d4 R d5 => ?_⟩
              rw [show E.length - 1 - (i + 1) = E.length - 2 - i by omega] at d5
              exact ⟨_, _, _, rfl, fin d1 d2 d3 d4 R d5⟩
            · have hlt := of_decide_eq_false hlt
              have hn : i + 1 = E.length := by omega
              walk_at "g"
              have hc : costE E (fupd s i v) (i + 1) = costE E (fupd s i v) E.length := by rw [hn]
              rw [hc] at le1
              have T2 : TrE E (fupd s i v) E.length := by rw [← hn]; exact T1
              refine ⟨tl, hl, bl, fl, es, E, [bl, fl], fupd s i v, B1, rs1, F1, by rw [hc], stc, tr.ch cHc (by simp), o, lE, by rw [← hn]; exact ehc, T2, kd, ebc, efc, frc, nbf, by omega, le1, fun H' rs2 d1 d2 d3 d4 => ?_⟩
              have R := met_rel o T2 S8 le1
              rw [← hn] at R
              refine ⟨_, _, _, rfl, fin d1 d2 d3 d4 R ?_⟩
              have : 1 ≤ cw E (E.length - 2 - i) (i + 1) := by rw [show E.length - 2 - i = 0 by omega]; simp [cw]
              rw [List.length_append]
              split <;> simp <;> omega
          · walk_at "g"
            refine ⟨_, _, _, rfl, B1, rs1, F1, cHc, c7c, ebc, efc, frc, S8, mono8, covP (fun t h => h) (fun t Tt ht => ?_), by rw [jl2]; omega⟩
            cases B1 with
            | none => cases hok
            | some b =>
              have hok := of_decide_eq_false hok
              have c1 := cost_mono Tt (i := i + 1) (by omega)
              rw [cost_congr o ht] at c1
              exact ⟨b, rfl, by omega, fun e => by omega⟩
      · rintro _ H8 ⟨x10, x11, x12, rfl, B1, rs1, F1, c8, c78, eb8, ef8, fr8, S8, mono8, cov8, lF8⟩
        rw [iv_len] at cov8 lF8
        have tl9 := tries_len o kd (s := s) iE
        refine q H8 B1 rs1 F1 c8 eb8 ef8 fr8 ⟨S8, mono8, fun t Tt ht => cov8 t Tt ht ?_⟩ (by omega)
        have := Tt i iE
        rw [tries_congr o ht] at this
        obtain ⟨m, hm, e⟩ := List.mem_iff_getElem.mp this
        exact ⟨m, hm, by rw [List.getElem?_eq_getElem hm, e]⟩
theorem fn_all (C : Cn w K mg base) : ∀ n : Nat, Fn P w K mg base CX0 (n + 4) "_law_all" ["_law_tree_here", "_law_some", "_law_many", "_law_best", "_law_found"] (spAll K n)
  | 0 => all_step C 3 (by decide) 0 (sp := fun _ _ _ _ => False) (C.f_law_all fun fd F => ⟨fun _ _ _ _ h => h.elim, fun _ _ _ _ _ _ _ _ _ _ _ _ _ h => h.elim⟩) fun m h => by omega
  | n + 1 => all_step C (n + 4) (by omega) (n + 1) (fn_all C n) fun m e _ _ _ _ h => by
    have : m = n := by omega
    rw [← this]
    exact h
end
end K3
end

section
set_option maxRecDepth 100000
set_option maxHeartbeats 1000000
open Bq L2
/-- one step of a reading; what is left are side goals and places to think -/
local macro_rules | `(tactic| walk_at "g1") => `(tactic| first
  | with_reducible refine' g_seq ?_ | with_reducible refine' g_asg ?_ | with_reducible refine' g_drop ?_ | with_reducible refine' g_ret ?_ | with_reducible refine' g_ifS ?_ | with_reducible refine' g_asgG ?_
  | ((with_reducible refine' g_var ?hv ?_); (case hv => rfl))
  | with_reducible refine' g_c ?_ | with_reducible refine' g_op ?_ | with_reducible refine' g_un ?_ | with_reducible refine' g_I0 ?_ | with_reducible refine' g_U ?_
  | with_reducible refine' g_test ?_ | with_reducible refine' g_tB ?_ | with_reducible refine Exists.intro _ (And.intro rfl ?_) 
  | ((with_reducible refine' g_andP ?ha ?hb ?_); (case ha => intro R q; walk_at "g"; exact q); (case hb => intro R q; walk_at "g"; exact q))
  | ((with_reducible refine' g_orP ?ha ?hb ?_); (case ha => intro R q; walk_at "g"; exact q); (case hb => intro R q; walk_at "g"; exact q))
  | with_reducible refine' g_and ?_ | with_reducible refine' g_or ?_ | with_reducible refine' g_not ?_
  | with_reducible refine' g_andV ?_ | with_reducible refine' g_orV ?_ | with_reducible refine' g_notV ?_ | with_reducible refine' g_if ?_ | with_reducible refine' g_nil ?_ | with_reducible refine' g_cons ?_
  | with_reducible refine' g_tup ?_ | with_reducible refine' g_lst ?_ | with_reducible refine' g_CB ?_ | with_reducible refine' g_Fn ?_ | with_reducible refine' g_next ?_ | with_reducible refine' g_retN ?_
  | with_reducible refine' g_name ?_ | with_reducible refine' g_sub ?_
  | ((with_reducible refine' g_ixL ?hs ?he ?_); (case hs => walk_at "lk"); (case he => walk_at "at"))
  | ((with_reducible refine' g_ixT ?hs ?he ?_); (case hs => walk_at "lk"); (case he => walk_at "at"))
  | ((with_reducible refine' g_setL ?hs ?he ?_); (case hs => walk_at "hp"); (case he => rfl))
  | ((with_reducible refine' g_app ?hs ?hz ?_); (case hs => walk_at "hp"); (case hz => walk_at "sz"))
  | ((with_reducible refine' ⟨_, _, rfl, Or.inl ?hs, ?_⟩); (case hs => walk_at "lk"))
  | ((with_reducible refine' ⟨_, _, rfl, Or.inr ?hs, ?_⟩); (case hs => walk_at "lk"))
  | with_reducible refine' g_BM ?_ | with_reducible refine' g_BM0 ?_ | ((with_reducible refine' g_tyL ?hs ?_); (case hs => walk_at "lk"))
  | with_reducible refine' g_sl ?_ | with_reducible refine' g_noPart ?_ | with_reducible refine' g_part ?_
  | ((with_reducible refine' g_inT ?hs ?fx ?fs ?_); (case hs => walk_at "lk"); (case fx => rfl); (case fs => rfl))
  | with_reducible refine' g_pair ?_ | with_reducible refine' g_pair0 ?_ | with_reducible refine' g_disp ?_
  | with_reducible refine' g_for ?_ | with_reducible refine' g_tupC ?_ | with_reducible refine' g_lstC ?_ | ((with_reducible refine' g_lens ?_)) | with_reducible refine' g_dg ?_ | with_reducible refine' g_lc ?_ | with_reducible refine' g_rng1 ?_ | with_reducible refine' g_ilist ?_ | with_reducible refine' g_itup ?_
  | ((with_reducible refine' ⟨_, _, rfl, ?hd, ?_⟩); (case hd => walk_at "dg"))
  | ((with_reducible refine' g_eqNil ?hs ?hz ?_); (case hs => walk_at "lk"); (case hz => walk_at "lk"))
  | ((with_reducible refine' g_neNil ?hs ?hz ?_); (case hs => walk_at "lk"); (case hz => walk_at "lk"))
  | with_reducible refine Or.inl ⟨_, rfl, ?_⟩
  | with_reducible refine Or.inr ⟨_, rfl, ?_⟩
  | ((with_reducible refine' g_eq ?hs ?_); (case hs => rfl))
  | ((with_reducible refine' g_ne ?hs ?_); (case hs => rfl))
  | ((with_reducible refine' g_I ?hc ?_); (case hc => walk_at "ar")))
/-- arithmetic's side conditions -/
local macro_rules | `(tactic| walk_at "ar") => `(tactic| (first
  | (show (0 : Int) < _; first | omega | decide) | (show (0 : Int) < _ ∧ _; constructor <;> omega) | (show ¬ (_ : Int) = _; omega) | (show (_ : Int) ≠ _ ∧ _; constructor <;> omega)
  | (show (-(2 ^ 64) < _ ∧ _) ∨ _; (first | (left; constructor <;> omega) | (right; constructor <;> omega))) | (show (0 : Int) ≤ _ ∧ _ ∧ _; refine ⟨by omega, by omega, by decide⟩)))
/-- what stands at an index -/
local macro_rules | `(tactic| walk_at "at") => `(tactic| first | rfl | assumption)
/-- what stands at an address -/
local macro_rules | `(tactic| walk_at "hp") => `(tactic| first | assumption | exact upd_same | ((refine' Eq.trans (upd_ne ?hn) ?hm); (case hm => walk_at "hp"); (case hn => walk_at "ne")))
/-- two places are two -/
local macro_rules | `(tactic| walk_at "ne") => `(tactic| first
  | assumption | exact Ne.symm (by assumption)
  | ((refine' ne_of_none ?ha ?hb); (case hb => assumption); (case ha => walk_at "hp")) | ((refine' Ne.symm (ne_of_none ?ha ?hb)); (case hb => assumption); (case ha => walk_at "hp")))
/-- what a dict tells -/
local macro_rules | `(tactic| walk_at "dg") => `(tactic| first | assumption)
/-- a length -/
local macro_rules | `(tactic| walk_at "sz") => `(tactic| first | (show _ ≤ sizeLine; decide) | (show _ < sizeLine; decide) | assumption | exact szlt (by simp) | exact szle (by simp))
/-- a list or tuple that stands -/
local macro_rules | `(tactic| walk_at "lk") => `(tactic| first | assumption | exact SqL.of (by assumption) | exact SqT.of (by assumption) | exact SqL.of upd_same | exact SqT.of upd_same | (refine' FzL.sq ?hm; (case hm => walk_at "fz")))
/-- a list that nobody writes -/
local macro_rules | `(tactic| walk_at "fz") => `(tactic| first | assumption | ((refine' FzL.uw ?hm ?hx); (case hx => walk_at "hp"); (case hm => walk_at "fz")) | ((refine' FzL.nw ?hm ?hx); (case hx => assumption); (case hm => walk_at "fz")))
/-- as far as it goes by itself -/
local macro_rules | `(tactic| walk_at "g") => `(tactic| repeat walk_at "g1")
/-- the body's reading, its places in short -/
local macro_rules | `(tactic| walk_at "go") => `(tactic| ((try dsimp only [cxOf, Cx.nox, Cx.wish]); walk_at "g"))
namespace K3
open PySem PySem.Spec PyProof.Rows L2 Bq
section
variable {P : Program} {w : World} {K : PySem.W.Frag} {mg : Str → Option Value} {base : Heap}
/-- further steps: dicts written, tuples taken apart -/
local macro_rules | `(tactic| walk_at "g1") => `(tactic| first
  | with_reducible refine' g_sdput ?_
  | ((with_reducible refine' g_gtup ?hs ?hl ?_); (case hs => walk_at "lk"); (case hl => rfl))
  | with_reducible refine' g_gcons ?_
  | with_reducible refine' g_gnil ?_
  | with_reducible refine' And.intro (Eq.refl V.non) ?_
  | with_reducible refine' g_isN ?_
  | ((with_reducible refine' g_chainR ?ha ?hb ?hc ?_); (case ha => intro R q; walk_at "g"; exact q); (case hb => intro R q; walk_at "g"; exact q); (case hc => intro R q; walk_at "g"; exact q))
  | with_reducible refine' g_notN ?_)
/-- what the law's dict tells -/
local macro_rules | `(tactic| walk_at "dg") => `(tactic| first
  | assumption
  | exact LH.gfuns (by assumption)
  | exact LH.gsaid (by assumption)
  | exact LH.gcells (by assumption)
  | exact LH.gfuel (by assumption)
  | exact LH.gend (by assumption)
  | exact LH.gcalls (by assumption)
  | exact LH.gnames (by assumption)
  | exact LH.gwaits (by assumption)
  | exact LH.gworth (by assumption)
  | exact LH.glook (by assumption))
/-- a test that fails, that holds, by itself -/
local macro_rules | `(tactic| walk_at "no") => `(tactic| ((refine tkF rfl ?_); walk_at "g"))
local macro_rules | `(tactic| walk_at "yes") => `(tactic| ((refine tkT rfl ?_); walk_at "g"))
local macro_rules | `(tactic| walk_at "g1") => `(tactic| first
  | with_reducible refine' g_catS ?_
  | with_reducible refine' g_mulS ?_
  | with_reducible refine' g_rev ?_)
/-! ### alike -/
inductive Lk (K : PySem.W.Frag) (H : Hp) : Nat → V → V → Prop where
  | int {n} (i : Int) : Lk K H n (.int i) (.int i)
  | str {n} (i : Str) : Lk K H n (.str i) (.str i)
  | lst {n a b xs ys} (h : H a = some (.lst xs)) (g : H b = some (.lst ys)) (l : xs.length = ys.length) (z : ys.length ≤ 4100000) (r : ∀ (i : Nat) x y, xs[i]? = some x → ys[i]? = some y → Lk K H n x y) : Lk K H (n + 1) (.ref a) (.ref b)
  | tup {n a b xs ys} (h : SqT K H a xs) (g : SqT K H b ys) (l : xs.length = ys.length) (z : ys.length ≤ 4100000) (r : ∀ (i : Nat) x y, xs[i]? = some x → ys[i]? = some y → Lk K H n x y) : Lk K H (n + 1) (.ref a) (.ref b)
theorem ty_tup {H : Hp} {a : Addr} {xs : List V} (h : SqT K H a xs) : TyX K H (.ref a) (.type "tuple") := by
  rcases h with (h | ⟨o, h⟩) | ⟨o, its, n, h, c, _⟩
  · exact .base (.tup h)
  · exact .fTuple h
  · exact .kTuple h c
def spLike (K : PySem.W.Frag) (n : Nat) : Sp := fun vs H Q _ => ∃ v u, vs = [v, u] ∧ Lk K H n v u ∧ Q (.bl true) H
theorem kl {b : String} {r : Bool} (h : kitB "list" b = some r) : kitB "list" b = some r := h
theorem like_step (C : Cn w K mg base) (k : Nat) (hk : 1 ≤ k) (n : Nat) {sp : Sp} (F_law_like : Fn P w K mg base CX0 k "_law_like" ["_law_found", "_law_due"] sp)
    (hsp : ∀ m, n = m + 1 → ∀ vs H Q E, spLike K m vs H Q E → sp vs H Q E) : Fn P w K mg base CX0 (k + 1) "_law_like" ["_law_found", "_law_due"] (spLike K n) := C.f_law_like fun fd F => by
  refine F.ok (CX := CX0) sc_law_like (fun vs H Q E h => ?_) (fun cdv A outer s H vs Q E hr h => ?_)
  · obtain ⟨v, u, rfl, _⟩ := h
    rfl
  · obtain ⟨v, u, rfl, hl, q⟩ := h
    have hu := hu_of (hr.mono hk)
    refine ⟨_, PSs.nox (pss_cons (ps_if (pt_val (pe_callB call_isi (by rfl) (C.m_isinstance) (by decide +kernel) (pa_cons (pv 1) (pa_cons (pe_bty "bool" (by rfl) (C.m_bool) (by decide +kernel)) pa_nil)))) (pss_one (ps_ret (pe_mid (pe_and (pe_callB call_isi (by rfl) (C.m_isinstance) (by decide +kernel) (pa_cons (pv 0) (pa_cons (pe_bty "bool" (by rfl) (C.m_bool) (by decide +kernel)) pa_nil))) (pe_one (pe_cmpR op_eq (pv 0) (pv 1) (nomark _))))))) pss_nil)
      (pss_cons (ps_if (pt_val (pe_callB call_isi (by rfl) (C.m_isinstance) (by decide +kernel) (pa_cons (pv 1) (pa_cons (pe_bty "str" (by rfl) (C.m_str) (by decide +kernel)) pa_nil)))) (pss_one (ps_ret (pe_mid (pe_and (pe_callB call_isi (by rfl) (C.m_isinstance) (by decide +kernel) (pa_cons (pv 0) (pa_cons (pe_bty "str" (by rfl) (C.m_str) (by decide +kernel)) pa_nil))) (pe_one (pe_cmpR op_eq (pv 0) (pv 1) (nomark _))))))) pss_nil)
      (pss_cons (ps_if (pt_val (pe_callB call_isi (by rfl) (C.m_isinstance) (by decide +kernel) (pa_cons (pv 1) (pa_cons (pe_bty "int" (by rfl) (C.m_int) (by decide +kernel)) pa_nil)))) (pss_one (ps_ret (pe_mid (pe_and (pe_callB call_isi (by rfl) (C.m_isinstance) (by decide +kernel) (pa_cons (pv 0) (pa_cons (pe_bty "int" (by rfl) (C.m_int) (by decide +kernel)) pa_nil))) (pe_and (pe_not (pe_callB call_isi (by rfl) (C.m_isinstance) (by decide +kernel) (pa_cons (pv 0) (pa_cons (pe_bty "bool" (by rfl) (C.m_bool) (by decide +kernel)) pa_nil)))) (pe_one (pe_cmpR op_eq (pv 0) (pv 1) (nomark _)))))))) pss_nil)
      (pss_cons (ps_if (pt_cmpR op_isN (pv 1) pe_non (nomark _)) (pss_one (ps_ret (pe_cmpR op_isN (pv 0) pe_non (nomark _)))) pss_nil)
      (pss_cons (ps_if (pt_mid (PW.pt (pw_or (pt_cmpR op_ne (pe_callB call_isi (by rfl) (C.m_isinstance) (by decide +kernel) (pa_cons (pv 1) (pa_cons (pe_bty "tuple" (by rfl) (C.m_tuple) (by decide +kernel)) pa_nil))) (pe_callB call_isi (by rfl) (C.m_isinstance) (by decide +kernel) (pa_cons (pv 0) (pa_cons (pe_bty "tuple" (by rfl) (C.m_tuple) (by decide +kernel)) pa_nil))) (nomark _)) (pw_or1 (pt_cmpR op_ne (pe_callB call_isi (by rfl) (C.m_isinstance) (by decide +kernel) (pa_cons (pv 1) (pa_cons (pe_bty "list" (by rfl) (C.m_list) (by decide +kernel)) pa_nil))) (pe_callB call_isi (by rfl) (C.m_isinstance) (by decide +kernel) (pa_cons (pv 0) (pa_cons (pe_bty "list" (by rfl) (C.m_list) (by decide +kernel)) pa_nil))) (nomark _)))))) (pss_one (ps_ret pe_bl)) pss_nil)
      (pss_cons (ps_if (pt_cmpR op_ne (pe_callB call_len_seq (by rfl) (C.m_len) PySem.boot_len (pa_cons (pv 0) pa_nil)) (pe_callB call_len_seq (by rfl) (C.m_len) PySem.boot_len (pa_cons (pv 1) pa_nil)) (nomark _)) (pss_one (ps_ret pe_bl)) pss_nil)
      (pss_cons (ps_for PassesOwn.never rfl (pi_range1 (by rfl) (C.m_range) (pa_cons (pe_callB call_len_seq (by rfl) (C.m_len) PySem.boot_len (pa_cons (pv 1) pa_nil)) pa_nil)) (pg_name (i := 2) sc_law_like.nd rfl (Or.inl rfl)) (pss_one (ps_if (pt_not (pt_val (pe_fn F_law_like (rmm hr) (by rfl) pass0 (pa_cons (pe_ix Bq.ix_seq (pv 0) (pv 2) (fun _ _ => rfl)) (pa_cons (pe_ix Bq.ix_seq (pv 1) (pv 2) (fun _ _ => rfl)) pa_nil))))) (pss_one (ps_ret pe_bl)) pss_nil)))
      (pss_one (ps_ret pe_bl))))))))), ?_⟩
    cases hl with
    | int i =>
      have t := Rep.ty (K := K) (H := H) (.int i)
      walk_at "go"
      refine g_isi t (kit_bool (.int i)) ?_
      walk_at "g"
      walk_at "no"
      refine g_isi t (kit_str (.int i)) ?_
      walk_at "g"
      walk_at "no"
      refine g_isi t (kit_int (.int i)) ?_
      walk_at "g"
      walk_at "yes"
      refine g_midE (fun v' H' => v' = .bl true ∧ H' = H) ?_ ?_
      · walk_at "g"
        refine g_isi t (kit_int (.int i)) ?_
        walk_at "g"
        walk_at "yes"
        refine g_isi t (kit_bool (.int i)) ?_
        walk_at "g"
        walk_at "yes"
        simp
      · rintro _ H1 ⟨rfl, e1⟩
        rw [e1]
        exact q
    | str i =>
      have t := Rep.ty (K := K) (H := H) (.str i)
      walk_at "go"
      refine g_isi t (kit_bool (.str i)) ?_
      walk_at "g"
      walk_at "no"
      refine g_isi t (kit_str (.str i)) ?_
      walk_at "g"
      walk_at "yes"
      refine g_midE (fun v' H' => v' = .bl true ∧ H' = H) ?_ ?_
      · walk_at "g"
        refine g_isi t (kit_str (.str i)) ?_
        walk_at "g"
        walk_at "yes"
        simp
      · rintro _ H1 ⟨rfl, e1⟩
        rw [e1]
        exact q
    | @lst n a b xs ys h g l z r =>
      have tf : TyX K H (.ref a) (.type "list") := TyX.base (.lst h)
      have tg : TyX K H (.ref b) (.type "list") := TyX.base (.lst g)
      have hf : SqL K H a xs := SqL.of h
      have hg : SqL K H b ys := SqL.of g
      walk_at "go"
      refine g_isi tg (show kitB "list" "bool" = some false by decide +kernel) ?_
      walk_at "g"
      walk_at "no"
      refine g_isi tg (show kitB "list" "str" = some false by decide +kernel) ?_
      walk_at "g"
      walk_at "no"
      refine g_isi tg (show kitB "list" "int" = some false by decide +kernel) ?_
      walk_at "g"
      walk_at "no"
      walk_at "no"
      refine g_mid (fun v' H' => v' = false ∧ H' = H) ?_ ?_
      · walk_at "g"
        refine g_isi tg (show kitB "list" "tuple" = some false by decide +kernel) ?_
        walk_at "g"
        refine g_isi tf (show kitB "list" "tuple" = some false by decide +kernel) ?_
        walk_at "g"
        walk_at "no"
        refine g_isi tg (show kitB "list" "list" = some true by decide +kernel) ?_
        walk_at "g"
        refine g_isi tf (show kitB "list" "list" = some true by decide +kernel) ?_
        walk_at "g"
        exact ⟨rfl, rfl⟩
      · rintro _ H1 ⟨rfl, e1⟩
        rw [e1]
        walk_at "no"
        rw [l]
        refine tkF (by simp) ?_
        walk_at "g"
        refine ⟨by omega, by omega, ?_⟩
        refine for_rng (fun i σ H' => ∃ x2, σ = [some (.ref a), some (.ref b), x2] ∧ H' = H) ⟨_, rfl, rfl⟩ ?_ ?_
        · rintro i σ H2 hi ⟨x2, rfl, rfl⟩
          have hi2 : i < ys.length := hi
          have hi1 : i < xs.length := by omega
          have e1 := List.getElem?_eq_getElem hi1
          have e2 := List.getElem?_eq_getElem hi2
          walk_at "g"
          refine .inl (g_ixL hf (atI_nat e1) ?_)
          walk_at "g"
          refine .inl (g_ixL hg (atI_nat e2) ?_)
          walk_at "g"
          refine hsp n rfl _ _ _ _ ⟨_, _, rfl, r i _ _ e1 e2, ?_⟩
          walk_at "g"
          walk_at "no"
          rfl
        · rintro σ H2 ⟨x2, rfl, rfl⟩
          walk_at "g"
          exact q
    | @tup n a b xs ys h g l z r =>
      have tf : TyX K H (.ref a) (.type "tuple") := ty_tup h
      have tg : TyX K H (.ref b) (.type "tuple") := ty_tup g
      have hf : SqT K H a xs := h
      have hg : SqT K H b ys := g
      walk_at "go"
      refine g_isi tg (show kitB "tuple" "bool" = some false by decide +kernel) ?_
      walk_at "g"
      walk_at "no"
      refine g_isi tg (show kitB "tuple" "str" = some false by decide +kernel) ?_
      walk_at "g"
      walk_at "no"
      refine g_isi tg (show kitB "tuple" "int" = some false by decide +kernel) ?_
      walk_at "g"
      walk_at "no"
      walk_at "no"
      refine g_mid (fun v' H' => v' = false ∧ H' = H) ?_ ?_
      · walk_at "g"
        refine g_isi tg (show kitB "tuple" "tuple" = some true by decide +kernel) ?_
        walk_at "g"
        refine g_isi tf (show kitB "tuple" "tuple" = some true by decide +kernel) ?_
        walk_at "g"
        walk_at "no"
        refine g_isi tg (show kitB "tuple" "list" = some false by decide +kernel) ?_
        walk_at "g"
        refine g_isi tf (show kitB "tuple" "list" = some false by decide +kernel) ?_
        walk_at "g"
        exact ⟨rfl, rfl⟩
      · rintro _ H1 ⟨rfl, e1⟩
        rw [e1]
        walk_at "no"
        rw [l]
        refine tkF (by simp) ?_
        walk_at "g"
        refine ⟨by omega, by omega, ?_⟩
        refine for_rng (fun i σ H' => ∃ x2, σ = [some (.ref a), some (.ref b), x2] ∧ H' = H) ⟨_, rfl, rfl⟩ ?_ ?_
        · rintro i σ H2 hi ⟨x2, rfl, rfl⟩
          have hi2 : i < ys.length := hi
          have hi1 : i < xs.length := by omega
          have e1 := List.getElem?_eq_getElem hi1
          have e2 := List.getElem?_eq_getElem hi2
          walk_at "g"
          refine .inr (g_ixT hf (atI_nat e1) ?_)
          walk_at "g"
          refine .inr (g_ixT hg (atI_nat e2) ?_)
          walk_at "g"
          refine hsp n rfl _ _ _ _ ⟨_, _, rfl, r i _ _ e1 e2, ?_⟩
          walk_at "g"
          walk_at "no"
          rfl
        · rintro σ H2 ⟨x2, rfl, rfl⟩
          walk_at "g"
          exact q
theorem fn_like (C : Cn w K mg base) : ∀ n : Nat, Fn P w K mg base CX0 (n + 2) "_law_like" ["_law_found", "_law_due"] (spLike K n)
  | 0 => like_step C 1 (by decide) 0 (sp := fun _ _ _ _ => False) (C.f_law_like fun fd F => ⟨fun _ _ _ _ h => h.elim, fun _ _ _ _ _ _ _ _ _ _ _ _ _ h => h.elim⟩) fun m h => by omega
  | n + 1 => like_step C (n + 2) (by omega) (n + 1) (fn_like C n) fun m e _ _ _ _ h => by
    have : m = n := by omega
    rw [← this]
    exact h
end
end K3
end

section
set_option maxRecDepth 100000
set_option maxHeartbeats 1000000
open Bq L2
/-- one step of a reading; what is left are side goals and places to think -/
local macro_rules | `(tactic| walk_at "g1") => `(tactic| first
  | with_reducible refine' g_seq ?_ | with_reducible refine' g_asg ?_ | with_reducible refine' g_drop ?_ | with_reducible refine' g_ret ?_ | with_reducible refine' g_ifS ?_ | with_reducible refine' g_asgG ?_
  | ((with_reducible refine' g_var ?hv ?_); (case hv => rfl))
  | with_reducible refine' g_c ?_ | with_reducible refine' g_op ?_ | with_reducible refine' g_un ?_ | with_reducible refine' g_I0 ?_ | with_reducible refine' g_U ?_
  | with_reducible refine' g_test ?_ | with_reducible refine' g_tB ?_ | with_reducible refine Exists.intro _ (And.intro rfl ?_) 
  | ((with_reducible refine' g_andP ?ha ?hb ?_); (case ha => intro R q; walk_at "g"; exact q); (case hb => intro R q; walk_at "g"; exact q))
  | ((with_reducible refine' g_orP ?ha ?hb ?_); (case ha => intro R q; walk_at "g"; exact q); (case hb => intro R q; walk_at "g"; exact q))
  | with_reducible refine' g_and ?_ | with_reducible refine' g_or ?_ | with_reducible refine' g_not ?_
  | with_reducible refine' g_andV ?_ | with_reducible refine' g_orV ?_ | with_reducible refine' g_notV ?_ | with_reducible refine' g_if ?_ | with_reducible refine' g_nil ?_ | with_reducible refine' g_cons ?_
  | with_reducible refine' g_tup ?_ | with_reducible refine' g_lst ?_ | with_reducible refine' g_CB ?_ | with_reducible refine' g_Fn ?_ | with_reducible refine' g_next ?_ | with_reducible refine' g_retN ?_
  | with_reducible refine' g_name ?_ | with_reducible refine' g_sub ?_
  | ((with_reducible refine' g_ixL ?hs ?he ?_); (case hs => walk_at "lk"); (case he => walk_at "at"))
  | ((with_reducible refine' g_ixT ?hs ?he ?_); (case hs => walk_at "lk"); (case he => walk_at "at"))
  | ((with_reducible refine' g_setL ?hs ?he ?_); (case hs => walk_at "hp"); (case he => rfl))
  | ((with_reducible refine' g_app ?hs ?hz ?_); (case hs => walk_at "hp"); (case hz => walk_at "sz"))
  | ((with_reducible refine' ⟨_, _, rfl, Or.inl ?hs, ?_⟩); (case hs => walk_at "lk"))
  | ((with_reducible refine' ⟨_, _, rfl, Or.inr ?hs, ?_⟩); (case hs => walk_at "lk"))
  | with_reducible refine' g_BM ?_ | with_reducible refine' g_BM0 ?_ | ((with_reducible refine' g_tyL ?hs ?_); (case hs => walk_at "lk"))
  | with_reducible refine' g_sl ?_ | with_reducible refine' g_noPart ?_ | with_reducible refine' g_part ?_
  | ((with_reducible refine' g_inT ?hs ?fx ?fs ?_); (case hs => walk_at "lk"); (case fx => rfl); (case fs => rfl))
  | with_reducible refine' g_pair ?_ | with_reducible refine' g_pair0 ?_ | with_reducible refine' g_disp ?_
  | with_reducible refine' g_for ?_ | with_reducible refine' g_tupC ?_ | with_reducible refine' g_lstC ?_ | ((with_reducible refine' g_lens ?_)) | with_reducible refine' g_dg ?_ | with_reducible refine' g_lc ?_ | with_reducible refine' g_rng1 ?_ | with_reducible refine' g_ilist ?_ | with_reducible refine' g_itup ?_
  | ((with_reducible refine' ⟨_, _, rfl, ?hd, ?_⟩); (case hd => walk_at "dg"))
  | ((with_reducible refine' g_eqNil ?hs ?hz ?_); (case hs => walk_at "lk"); (case hz => walk_at "lk"))
  | ((with_reducible refine' g_neNil ?hs ?hz ?_); (case hs => walk_at "lk"); (case hz => walk_at "lk"))
  | with_reducible refine Or.inl ⟨_, rfl, ?_⟩
  | with_reducible refine Or.inr ⟨_, rfl, ?_⟩
  | ((with_reducible refine' g_eq ?hs ?_); (case hs => rfl))
  | ((with_reducible refine' g_ne ?hs ?_); (case hs => rfl))
  | ((with_reducible refine' g_I ?hc ?_); (case hc => walk_at "ar")))
/-- arithmetic's side conditions -/
local macro_rules | `(tactic| walk_at "ar") => `(tactic| (first
  | (show (0 : Int) < _; first | omega | decide) | (show (0 : Int) < _ ∧ _; constructor <;> omega) | (show ¬ (_ : Int) = _; omega) | (show (_ : Int) ≠ _ ∧ _; constructor <;> omega)
  | (show (-(2 ^ 64) < _ ∧ _) ∨ _; (first | (left; constructor <;> omega) | (right; constructor <;> omega))) | (show (0 : Int) ≤ _ ∧ _ ∧ _; refine ⟨by omega, by omega, by decide⟩)))
/-- what stands at an index -/
local macro_rules | `(tactic| walk_at "at") => `(tactic| first | rfl | assumption)
/-- what stands at an address -/
local macro_rules | `(tactic| walk_at "hp") => `(tactic| first | assumption | exact upd_same | ((refine' Eq.trans (upd_ne ?hn) ?hm); (case hm => walk_at "hp"); (case hn => walk_at "ne")))
/-- two places are two -/
local macro_rules | `(tactic| walk_at "ne") => `(tactic| first
  | assumption | exact Ne.symm (by assumption)
  | ((refine' ne_of_none ?ha ?hb); (case hb => assumption); (case ha => walk_at "hp")) | ((refine' Ne.symm (ne_of_none ?ha ?hb)); (case hb => assumption); (case ha => walk_at "hp")))
/-- what a dict tells -/
local macro_rules | `(tactic| walk_at "dg") => `(tactic| first | assumption)
/-- a length -/
local macro_rules | `(tactic| walk_at "sz") => `(tactic| first | (show _ ≤ sizeLine; decide) | (show _ < sizeLine; decide) | assumption | exact szlt (by simp) | exact szle (by simp))
/-- a list or tuple that stands -/
local macro_rules | `(tactic| walk_at "lk") => `(tactic| first | assumption | exact SqL.of (by assumption) | exact SqT.of (by assumption) | exact SqL.of upd_same | exact SqT.of upd_same | (refine' FzL.sq ?hm; (case hm => walk_at "fz")))
/-- a list that nobody writes -/
local macro_rules | `(tactic| walk_at "fz") => `(tactic| first | assumption | ((refine' FzL.uw ?hm ?hx); (case hx => walk_at "hp"); (case hm => walk_at "fz")) | ((refine' FzL.nw ?hm ?hx); (case hx => assumption); (case hm => walk_at "fz")))
/-- as far as it goes by itself -/
local macro_rules | `(tactic| walk_at "g") => `(tactic| repeat walk_at "g1")
/-- the body's reading, its places in short -/
local macro_rules | `(tactic| walk_at "go") => `(tactic| ((try dsimp only [cxOf, Cx.nox, Cx.wish]); walk_at "g"))
namespace K3
open PySem PySem.Spec PyProof.Rows L2 Bq
section
variable {P : Program} {w : World} {K : PySem.W.Frag} {mg : Str → Option Value} {base : Heap}
/-- further steps: dicts written, tuples taken apart -/
local macro_rules | `(tactic| walk_at "g1") => `(tactic| first
  | with_reducible refine' g_sdput ?_
  | ((with_reducible refine' g_gtup ?hs ?hl ?_); (case hs => walk_at "lk"); (case hl => rfl))
  | with_reducible refine' g_gcons ?_
  | with_reducible refine' g_gnil ?_
  | with_reducible refine' And.intro (Eq.refl V.non) ?_
  | with_reducible refine' g_isN ?_
  | ((with_reducible refine' g_chainR ?ha ?hb ?hc ?_); (case ha => intro R q; walk_at "g"; exact q); (case hb => intro R q; walk_at "g"; exact q); (case hc => intro R q; walk_at "g"; exact q))
  | with_reducible refine' g_notN ?_)
/-- what the law's dict tells -/
local macro_rules | `(tactic| walk_at "dg") => `(tactic| first
  | assumption
  | exact LH.gfuns (by assumption)
  | exact LH.gsaid (by assumption)
  | exact LH.gcells (by assumption)
  | exact LH.gfuel (by assumption)
  | exact LH.gend (by assumption)
  | exact LH.gcalls (by assumption)
  | exact LH.gnames (by assumption)
  | exact LH.gwaits (by assumption)
  | exact LH.gworth (by assumption)
  | exact LH.glook (by assumption))
/-- a test that fails, that holds, by itself -/
local macro_rules | `(tactic| walk_at "no") => `(tactic| ((refine tkF rfl ?_); walk_at "g"))
local macro_rules | `(tactic| walk_at "yes") => `(tactic| ((refine tkT rfl ?_); walk_at "g"))
local macro_rules | `(tactic| walk_at "g1") => `(tactic| first
  | with_reducible refine' g_catS ?_
  | with_reducible refine' g_mulS ?_
  | with_reducible refine' g_rev ?_)
/-- numbers in lists, more -/
local macro_rules | `(tactic| walk_at "g1") => `(tactic| first
  | with_reducible refine' g_augS ?_
  | with_reducible refine' g_ipI ?_
  | with_reducible refine' g_revL ?_
  | ((with_reducible refine' g_getL ?hs ?he ?_); (case hs => walk_at "lk"); (case he => walk_at "at"))
  | with_reducible refine' g_enum ?_)
open Fl
theorem call_minLK (K : PySem.W.Frag) {X : Cx} (hc : X.calm = true) (hK : X.K = K := by rfl) : CallR X (.builtin "min") (rMinL K) := hK ▸ call_minL hc
theorem pi_listK (K : PySem.W.Frag) {X : Cx} {tg e : Expr} {te : TE} (h : PE X e te) (hK : X.K = K := by rfl) : PI X tg e (iList K te) := hK ▸ pi_list h
theorem op_neNilK (K : PySem.W.Frag) {X : Cx} (hu : X.A.units < cLine) (hK : X.K = K := by rfl) : OpR X (compareOp .NotEq) (rNeNil K) := hK ▸ op_neNil hu
theorem hu2_of {k : Nat} {A : Around} (r : Room k A) : A.units + 65 < cLine := by have := r.un; omega
theorem qu_dflt {E : List LE} {j : Nat} (h : E.length ≤ j) : quE E j = true := by
  unfold quE kidsE ldE entE
  rw [List.getD_eq_getElem?_getD, List.getElem?_eq_none h]
  rfl
theorem loud_dd (d : Dd) : loudW (rowW (rowT (.d d))) = false := by cases d <;> rfl
theorem lay_eq (d : Dd) : layD d = layPs (innerD d) 0 ++ [⟨rowT (.d d), kidsOf (innerD d) 0⟩] := rfl
theorem ent_last (d : Dd) : entE (layD d) ((layD d).length - 1) = ⟨rowT (.d d), kidsOf (innerD d) 0⟩ := by
  have h : (layD d)[(layD d).length - 1]? = some ⟨rowT (.d d), kidsOf (innerD d) 0⟩ := by
    rw [lay_eq, List.length_append, List.length_cons, List.length_nil]
    simp
  unfold entE
  rw [List.getD_eq_getElem?_getD, h]
  rfl
theorem inner_ne (d : Dd) : ∃ p r, innerD d = p :: r := by cases d <;> exact ⟨_, _, rfl⟩
theorem few_of {d : Dd} (sz : szPs (innerD d) ≤ 40) (h : (triedL (layD d)).length ≤ 6) : Few (layD d) := by
  refine ⟨okLE_D sz, ?_, ?_, h⟩
  · obtain ⟨p, r, e⟩ := inner_ne d
    unfold kidsE
    rw [ent_last, e]
    exact ⟨_, List.mem_cons_self ..⟩
  · unfold ldE
    rw [ent_last]
    exact loud_dd d
/-- some way to try all -/
theorem tr_some {E : List LE} (o : OkLE E) : ∀ m, m ≤ E.length → ∃ t, TrE E t m
  | 0, _ => ⟨fun _ => 0, fun j h => by omega⟩
  | m + 1, h => by
    obtain ⟨t, T⟩ := tr_some o m (by omega)
    have ne : triesE E t m ≠ [] := by
      unfold triesE
      split
      · simp
      · split <;> simp
    obtain ⟨v, hv⟩ := List.exists_mem_of_ne_nil _ ne
    have hag : ∀ k, k < m → t k = fupd t m v k := fun k hk => (fupd_ne (by omega)).symm
    refine ⟨fupd t m v, fun u hu => ?_⟩
    by_cases e : u = m
    · rw [e, fupd_same, ← tries_congr o hag]; exact hv
    · exact tr_congr o hag T u (by omega)
theorem inV_niv (j : Nat) : ∀ l : List Nat, inV (V.int (j : Nat)) (niv l) = decide (j ∈ l)
  | [] => by simp [inV, niv, iv]
  | a :: r => by
    have ih := inV_niv j r
    have e : inV (V.int (j : Nat)) (niv (a :: r)) = (eqV (V.int (a : Nat)) (V.int (j : Nat)) || inV (V.int (j : Nat)) (niv r)) := rfl
    rw [e, ih]
    have e2 : eqV (V.int (a : Nat)) (V.int (j : Nat)) = decide (j = a) := by
      show (((a : Nat) : Int) == ((j : Nat) : Int)) = _
      by_cases h : j = a
      · subst h; simp
      · have h2 : ¬ ((a : Nat) : Int) = ((j : Nat) : Int) := by omega
        simp [h]; omega
    rw [e2]
    simp [List.mem_cons]
theorem flat_niv : ∀ l : List Nat, (niv l).all flatV = true
  | [] => rfl
  | a :: r => by
    have ih := flat_niv r
    show (true && (niv r).all flatV) = true
    rw [ih]; rfl
def intD (l : List Int) : PyData := .list (l.map PyData.int)
theorem ints_lay : ∀ l : List Int, PyData.canLayAll0 (l.map PyData.int) = true ∧ PyData.depthAll (l.map PyData.int) = 0
  | [] => by simp [PyData.canLayAll0, PyData.depthAll]
  | a :: r => by
    obtain ⟨h1, h2⟩ := ints_lay r
    simp [PyData.canLayAll0, PyData.depthAll, PyData.canLay0, PyData.depth, h1, h2]
theorem intD_lay (l : List Int) : (intD l).canLay0 = true ∧ (intD l).depth = 1 := by
  obtain ⟨h1, h2⟩ := ints_lay l
  simp [intD, PyData.canLay0, PyData.depth, h1, h2]
theorem intDs_lay : ∀ F : List (List Int), PyData.canLayAll0 (F.map intD) = true ∧ PyData.depthAll (F.map intD) ≤ 1
  | [] => by simp [PyData.canLayAll0, PyData.depthAll]
  | a :: r => by
    obtain ⟨h1, h2⟩ := intDs_lay r
    obtain ⟨h3, h4⟩ := intD_lay a
    simp [PyData.canLayAll0, PyData.depthAll, h1, h3, h4]
    omega
theorem intD_shaped (l : List Int) : SeqAt.shaped (intD l) = true := by
  obtain ⟨h3, h4⟩ := intD_lay l
  show ((intD l).canLay0 && decide ((intD l).depth ≤ 64)) = true
  rw [h3, h4]; rfl
theorem intDs_shaped (F : List (List Int)) : SeqAt.shaped (.list (F.map intD)) = true := by
  obtain ⟨h3, h4⟩ := intDs_lay F
  have h1 : PyData.canLay0 (.list (F.map intD)) = true := by simp only [PyData.canLay0]; exact h3
  have h2 : PyData.depth (.list (F.map intD)) ≤ 64 := by simp only [PyData.depth]; omega
  show (PyData.canLay0 (.list (F.map intD)) && decide (PyData.depth (.list (F.map intD)) ≤ 64)) = true
  rw [h1, decide_eq_true h2]; rfl
theorem dpAll_ints {H : Hp} : ∀ l : List Int, DpAll K H (iv l) (l.map PyData.int)
  | [] => .nil
  | a :: r => .cons (.int a) (dpAll_ints r)
theorem dp_found {H : Hp} {N : List Addr} {rs : List V} {F : List (List Int)} (h : FoundR K H N rs F) : DpAll K H rs (F.map intD) := by
  induction h with
  | nil => exact .nil
  | cons h _ _ ih => exact .cons (.lst (SqL.of h) (dpAll_ints _)) ih
theorem in_found {F : List (List Int)} {f : List Int} (h : f ∈ F) : (!(F.map intD).any fun z => PyData.eqv z (intD f)) = false := by
  rw [Bool.not_eq_false', List.any_eq_true]
  exact ⟨intD f, List.mem_map.mpr ⟨f, h, rfl⟩, SeqAt.eqv_refl _ (intD_lay f).1⟩
theorem lk_hv {H : Hp} {a b : Addr} {m n : Nat} {h : Nat → Int} (e : H a = some (.lst (hv n h))) (g : H b = some (.lst (hv n h))) (z : n ≤ 4100000) : Lk K H (m + 1) (.ref a) (.ref b) := by
  refine .lst e g rfl (by rw [hv_len]; exact z) fun i u v e1 e2 => ?_
  rw [e1] at e2
  injection e2 with e3
  subst e3
  unfold hv at e1
  rw [List.getElem?_map] at e1
  obtain ⟨y, _, rfl⟩ := Option.map_eq_some_iff.mp e1
  exact .int _
theorem hv_iv (n : Nat) (h : Nat → Int) : hv n h = iv ((List.range n).map h) := by
  unfold hv iv
  rw [List.map_map]
  rfl
def dd0 : Dd := .say (.get (.bin .add (.num 1) (.call 0 [])))
def spLaw (K : PySem.W.Frag) : Sp := fun vs H Q _ => ∃ (sc : Addr) (ns : List Int), vs = [.ref sc] ∧ FzL K H sc (ns.map V.int) ∧ ns.length ≤ 63 ∧ ∀ H', Q (.bl true) H'
theorem ok_law (C : Cn w K mg base) {fl : Addr} {fd : FuncData} (F : FnP K "law" "law" s_law fl fd) : FnOk P w K mg base CX0 70 fl fd ["_law_script"] (spLaw K) := by
  have F_law_dice : Fn P w K mg base CX0 1 "_law_dice" ["_law_script"] (spDice K) := fn_dice C
  have F_law_next : Fn P w K mg base CX0 1 "_law_next" ["_law_dice_here", "_law_many"] (spNext K) := fn_next C
  have F_law_small : Fn P w K mg base CX0 13 "_law_small" ["_law_d", "_law_room"] (spSmall K 10) := fn_small C 10
  have F_law_tree : Fn P w K mg base CX0 44 "_law_tree" ["_law_deed"] (spLTree K) := fn_ltree C
  have F_law_loud : Fn P w K mg base CX0 1 "_law_loud" ["_law_tree_here"] (spLLoud K) := fn_lloud C
  have F_law_all : Fn P w K mg base CX0 64 "_law_all" ["_law_tree_here", "_law_some", "_law_many", "_law_best", "_law_found"] (spAll K 60) := fn_all C 60
  have F_law_like : Fn P w K mg base CX0 4 "_law_like" ["_law_found", "_law_due"] (spLike K 2) := fn_like C 2
  have F_stages : Fn P w K mg base CX0 46 "stages" ["deed"] (spStages K) := fn_stages C
  have F_turns : Fn P w K mg base CX0 46 "turns" ["deed", "some"] (spTurns K) := fn_turns C
  refine F.ok (CX := CX0) sc_law (fun vs H Q E h => ?_) (fun cdv A outer s H vs Q E hr h => ?_)
  · obtain ⟨sc, ns, rfl, _⟩ := h
    rfl
  · obtain ⟨sc, ns, rfl, hs, hl, q⟩ := h
    have hu := hu_of (rmm (j := 1) hr)
    have hu0 : ∀ {A : Around}, A.units + 1 < cLine → A.units < cLine := fun h => by omega
    replace hu0 := hu0 hu
    have hu2 := hu2_of hr
    refine ⟨_, PSs.nox (pss_cons (ps_set (i := 1) sc_law.nd rfl (Or.inl rfl) (pe_fn F_law_dice (rmm hr) (by rfl) pass0 (pa_cons (pv 0) pa_nil)))
      (pss_cons (ps_for PassesOwn.never rfl (pi_range1 (by rfl) (C.m_range) (pa_cons pe_int pa_nil)) (pg_name (i := 2) sc_law.nd rfl (Or.inl rfl)) (pss_cons (ps_set (i := 3) sc_law.nd rfl (Or.inl rfl) (pe_tupC (pa_cons pe_str (pa_cons (pe_fn F_law_small (rmm hr) (by rfl) pass0 (pa_cons (pv 1) (pa_cons (pe_lstC (pa_cons (pe_op op_add pe_int (pe_fn F_law_next (rmm hr) (by rfl) pass0 (pa_cons (pv 1) (pa_cons pe_int pa_nil)))) pa_nil)) pa_nil))) pa_nil))))
      (Evl.pss_cut (ps_if (pt_cmpR op_eq (pe_fn F_law_next (rmm hr) (by rfl) pass0 (pa_cons (pv 1) (pa_cons pe_int pa_nil))) pe_int (nomark _)) (pss_one (ps_set (i := 3) sc_law.nd rfl (Or.inl rfl) (pe_tupC (pa_cons pe_str (pa_cons (pe_fn F_law_small (rmm hr) (by rfl) pass0 (pa_cons (pv 1) (pa_cons (pe_lstC (pa_cons pe_int pa_nil)) pa_nil))) (pa_cons (pe_ix ix_tup (pv 3) pe_int (fun _ _ => rfl)) pa_nil)))))) pss_nil)
      (pss_cons (ps_set (i := 4) sc_law.nd rfl (Or.inr rfl) (pe_fn F_law_tree (rmm hr) (by rfl) pass0 (pa_cons (pv 3) pa_nil)))
      (pss_cons (ps_setLc (i := 5) (own := [("_law_number", 11)]) (g := gName 11) rfl sc_law.nd rfl rfl (sw_true rfl rfl rfl (by decide +kernel)) (pi_range1 (by rfl) (C.m_range) (pa_cons (pe_callB call_len_seq (by rfl) (C.m_len) PySem.boot_len (pa_cons (pv 4) pa_nil)) pa_nil)) (blkOk_by (own := [("_law_number", 11)]) (N := ["_law_script", "_law_d", "_law_turn", "_law_deed", "_law_tree_here", "_law_tried", "_law_best", "_law_found", "_law_due", "_law_again", "_law_some", "_law_number", "_law_k", "_law_full"]) (sc := defScope s_law) (by decide +kernel)) (fun _ _ _ _ _ => pg_name (i := 11) sc_law.nd rfl (Or.inl rfl)) (fun _ _ _ _ _ => pts_one (pt_mid (PW.pt (pw_or (pt_cmpR (op_neNilK K hu0) (pe_ix (ix_tupK K) (pe_ix (ix_listK K) (pv 4) (pv 11) (fun _ _ => rfl)) pe_int (fun _ _ => rfl)) (pe_lstCK K pa_nil) (nomark _)) (pw_or1 (pt_cmpR (op_in_seqK K) (pv 11) (pe_fn F_law_loud (rmm hr) (by rfl) pass0 (pa_cons (pv 4) pa_nil)) (by rfl))))))) (fun _ _ _ _ _ => (pv 11)))
      (Evl.pss_cut (ps_if (pt_cmpR op_gt (pe_callB call_len_seq (by rfl) (C.m_len) PySem.boot_len (pa_cons (pv 5) pa_nil)) pe_int (nomark _)) (pss_cons (ps_set (i := 4) sc_law.nd rfl (Or.inr rfl) (pe_fn F_law_tree (rmm hr) (by rfl) pass0 (pa_cons (pe_tupC (pa_cons pe_str (pa_cons (pe_tupC (pa_cons pe_str (pa_cons (pe_tupC (pa_cons pe_str (pa_cons (pe_tupC (pa_cons pe_str (pa_cons pe_int pa_nil))) (pa_cons (pe_tupC (pa_cons pe_str (pa_cons pe_int (pa_cons (pe_tupC pa_nil) pa_nil)))) pa_nil)))) pa_nil))) pa_nil))) pa_nil)))
      (pss_one (ps_set (i := 3) sc_law.nd rfl (Or.inl rfl) (pe_tupC (pa_cons pe_str (pa_cons (pe_tupC (pa_cons pe_str (pa_cons (pe_tupC (pa_cons pe_str (pa_cons (pe_tupC (pa_cons pe_str (pa_cons pe_int pa_nil))) (pa_cons (pe_tupC (pa_cons pe_str (pa_cons pe_int (pa_cons (pe_tupC pa_nil) pa_nil)))) pa_nil)))) pa_nil))) pa_nil)))))) pss_nil)
      (pss_cons (ps_asg (pe_tupC (pa_cons (pe_lstC pa_nil) (pa_cons (pe_lstC pa_nil) pa_nil))) (pg_tup rfl (pgs_cons (pg_name (i := 6) sc_law.nd rfl (Or.inl rfl)) (pgs_cons (pg_name (i := 7) sc_law.nd rfl (Or.inr rfl)) pgs_nil))))
      (pss_cons (ps_expr (pe_fn F_law_all (rmm hr) (by rfl) pass0 (pa_cons (pv 4) (pa_cons (pe_lstC pa_nil) (pa_cons pe_int (pa_cons (pv 6) (pa_cons (pv 7) pa_nil)))))))
      (pss_cons (ps_setLc (i := 8) (own := [("_law_k", 12)]) (g := gName 12) (tt := tYes) rfl sc_law.nd rfl rfl (sw_true rfl rfl rfl (by decide +kernel)) (pi_range1 (by rfl) (C.m_range) (pa_cons (pe_callB call_len_seq (by rfl) (C.m_len) PySem.boot_len (pa_cons (pv 4) pa_nil)) pa_nil)) (blkOk_by (own := [("_law_k", 12)]) (N := ["_law_script", "_law_d", "_law_turn", "_law_deed", "_law_tree_here", "_law_tried", "_law_best", "_law_found", "_law_due", "_law_again", "_law_some", "_law_number", "_law_k", "_law_full"]) (sc := defScope s_law) (by decide +kernel)) (fun _ _ _ _ _ => pg_name (i := 12) sc_law.nd rfl (Or.inr rfl)) (fun _ _ _ _ _ => pts_nil) (fun _ _ _ _ _ => (pe_callB (call_minLK K rfl) (by rfl) (C.m_min) (by decide +kernel) (pa_cons (pe_lc (own := [("_law_full", 13)]) (g := gName 13) (tt := tYes) rfl sc_law.nd (pi_listK K (pv 7)) (by dsimp only [Cx.blk, compEnvC, cxOf, Cx.nox, Cx.wish]; exact blkOk_by (own := [("_law_full", 13)]) (by kernel_rfl)) (fun _ _ _ _ _ => pg_name (i := 13) sc_law.nd rfl (Or.inl rfl)) (fun _ _ _ _ _ => pts_nil) (fun _ _ _ _ _ => (pe_ix (ix_listK K) (pv 13) (pv 12) (fun _ _ => rfl)))) pa_nil))))
      (pss_one (ps_for PassesOwn.never rfl (pi_range1 (by rfl) (C.m_range) (pa_cons pe_int pa_nil)) (pg_name (i := 9) sc_law.nd rfl (Or.inl rfl)) (pss_cons (ps_set (i := 10) sc_law.nd rfl (Or.inl rfl) (pe_fn F_stages (rmm hr) (by rfl) pass0 (pa_cons (pv 3) pa_nil)))
      (pss_cons (ps_if (pt_mid (PW.pt (pw_or (pt_not (pt_val (pe_fn F_law_like (rmm hr) (by rfl) pass0 (pa_cons (pv 10) (pa_cons (pv 8) pa_nil))))) (pw_or (pt_not (pt_val (pe_fn F_law_like (rmm hr) (by rfl) pass0 (pa_cons (pe_fn F_turns (rmm hr) (by rfl) pass0 (pa_cons (pv 3) (pa_cons (pv 10) pa_nil))) (pa_cons (pe_ix ix_list (pv 6) pe_int (fun _ _ => rfl)) pa_nil))))) (pw_or1 (pt_cmpR (op_notInD hu2) (pv 8) (pv 7) (by rfl))))))) (pss_one (ps_ret pe_bl)) pss_nil)
      (pss_one (ps_expr (pe_bm PySem.F.plainAttrs_list PySem.F.slot_list_append PySem.F.type_list_append mt_append (pv 10) (pa_cons pe_int pa_nil)))))))))))))))))
      (pss_one (ps_ret pe_bl)))), ?_⟩
    walk_at "go"
    refine ⟨sc, ns, rfl, hs, hl, fun H1 d c1 nd D1 => ?_⟩
    walk_at "g"
    refine ⟨by decide, by decide, ?_⟩
    refine for_rng (n := 2) (fun i σ' H' => ∃ x2 x3 x4 x5 x6 x7 x8 x9 x10, σ' = [some (.ref sc), some (.ref d), x2, x3, x4, x5, x6, x7, x8, x9, x10, none, none, none] ∧ Dice K H' d) ⟨_, _, _, _, _, _, _, _, _, rfl, D1⟩ ?_ ?_
    · rintro i _ H2 hi ⟨x2, x3, x4, x5, x6, x7, x8, x9, x10, rfl, D2⟩
      walk_at "g"
      refine ⟨d, 5, rfl, D2, by decide, by decide, fun H3 n c3 D3 n0 n1 => ?_⟩
      walk_at "g"
      refine ⟨szle (by simp), fun r H4 nr er k4 => ?_⟩
      walk_at "g"
      refine ⟨d, r, 1 + n, rfl, D3.ch k4 (by simp), (D3.ne nr).symm, er, by omega, by omega, fun H5 v p m' c5 D5 e5 m0 m1 rp wf sz => ?_⟩
      walk_at "g"
      refine ⟨szle (by simp), fun a6 H6 n6 e6 k6 => ?_⟩
      have D6 := D5.ch k6 (by simp)
      have rp6 := rp.kt k6.kt
      walk_at "g"
      refine g_cut (Mid := fun σ' H' => ∃ dv dd, σ' = [some (.ref sc), some (.ref d), some (.int (i : Nat)), some dv, x4, x5, x6, x7, x8, x9, x10, none, none, none] ∧ Dice K H' d ∧ Rep K H' dv (encDd dd) ∧ WfDd kPs dd ∧ szPs (innerD dd) ≤ 40) ?_ ?_
      · walk_at "g"
        refine ⟨d, 4, rfl, D6, by decide, by decide, fun H7 n2 c7 D7 m2 m3 => ?_⟩
        have rp7 := rp6.kt c7.kt
        have e7 : SqT K H7 a6 [.str "say", v] := c7.kt.t _ _ (SqT.of e6)
        walk_at "g"
        refine iteB (fun h => ?_) (fun h => ?_)
        · walk_at "g"
          refine ⟨szle (by simp), fun r8 H8 nr8 er8 k8 => ?_⟩
          walk_at "g"
          refine ⟨d, r8, 1, rfl, D7.ch k8 (by simp), (D7.ne nr8).symm, er8, by omega, by omega, fun H9 v9 p9 m9 c9 D9 e9 m90 m91 rp9 wf9 sz9 => ?_⟩
          have e9 : SqT K H9 a6 [.str "say", v] := (k8.kt.trans c9.kt).t _ _ e7
          have g1 : atI [V.str "say", v] 1 = some v := rfl
          walk_at "g"
          refine ⟨szle (by simp), fun a10 H10 n10 e10 k10 => ?_⟩
          walk_at "g"
          refine ⟨_, .put p9 p, rfl, D9.ch k10 (by simp), .tup (SqT.of e10) (.cons (.str _) (.cons (rp9.kt k10.kt) (.cons (((rp7.kt k8.kt).kt c9.kt).kt k10.kt) .nil))), ?_, ?_⟩
          · refine ⟨rfl, by decide, ⟨wf9, wf, by show szP p9 + szP p ≤ 40; omega⟩, ?_⟩
            simp only [szD, szB, szP] <;> omega
          · show szP p9 + (szP p + 0) ≤ 40
            omega
        · refine g_next ⟨_, .say p, rfl, D7, .tup e7 (.cons (.str _) (.cons rp7 .nil)), ?_, ?_⟩
          · refine ⟨rfl, by decide, ⟨wf, by omega⟩, ?_⟩
            simp only [szD, szB, szP] <;> omega
          · show szP p + 0 ≤ 40
            omega
      rintro _ H7 ⟨dv, dd, rfl, D7, rd7, W7, sz7⟩
      have ad : ∀ x ∈ [d], H7 x ≠ none := fun x hx => by
        obtain ⟨_, _, _, _, _, y⟩ := D7
        simp at hx
        rw [hx, y.h]
        simp
      walk_at "g"
      refine ⟨dv, dd, [d], rfl, rd7, sz7, ad, fun H8 tl es c8 n8 e8 t8 => ?_⟩
      have D8 := D7.ch c8 (by simp)
      have ntd : tl ≠ d := D7.ne n8
      have st8 := SqL.of (K := K) e8
      have le : es.length = (layD dd).length := t8.len
      have lE : (layD dd).length ≤ 41 := by rw [lenD]; omega
      have o := okLE_D sz7
      have okr := okrow_D dd
      walk_at "g"
      refine ⟨by omega, by omega, fun G nG => ?_⟩
      rw [Int.toNat_natCast]
      refine lc_it (walk_range (n := es.length)) (fun j H' => Ch K [] H8 H' ∧ H' G = some (.lst (niv ((List.range j).filter fun u => !quE (layD dd) u)))) ⟨Ch.new nG, by rw [upd_same]; rfl⟩ (fun i H' _ _ => trivial) ?_ ?_
      · rintro j x1 _ H9 hj ⟨c9, d9⟩ ⟨rfl, hx⟩
        cases hx
        obtain ⟨e, ea, rv, ka, he, hva, hea, rr, hka, kN⟩ := (t8.ch c9 (by simp)).at (List.getElem?_eq_getElem hj)
        have st9 := c9.sqL st8 (by simp)
        have g1 : atI es ((j : Nat) : Int) = some (V.ref ea) := by
          exact atI_nat (by rw [List.getElem?_eq_getElem hj, hva])
        have g2 : atI [rv, V.ref ka] 1 = some (V.ref ka) := rfl
        walk_at "g"
        refine ⟨rfl, ?_⟩
        walk_at "g"
        have ee : entE (layD dd) j = e := by
          have := entE_at (show j < (layD dd).length by omega)
          rw [he] at this
          exact (Option.some.inj this).symm
        have ek : kidsE (layD dd) j = e.kids := by unfold kidsE; rw [ee]
        rw [show (fun i : Nat => V.int (0 + (i : Int))) j = V.int ((j : Nat) : Int) by simp]
        refine g_mid (fun b H' => b = !quE (layD dd) j ∧ Ch K [] H9 H') ?_ ?_
        · walk_at "g"
          refine ⟨szle (by simp), fun pa Ha na ea2 ca => ?_⟩
          have ska := SqL.of (K := K) (ca.up _ _ hka (by simp))
          refine g_neNil ska (SqL.of ea2) ⟨_, rfl, ?_⟩
          refine iteB (fun h => ?_) (fun h => ?_)
          · refine ⟨?_, ca⟩
            have : e.kids.isEmpty = false := by rw [← niv_nil]; simpa using h
            unfold quE
            rw [ek, this]
            rfl
          · have hk0 : e.kids.isEmpty = true := by rw [← niv_nil]; simpa using h
            walk_at "g"
            refine ⟨tl, es, layD dd, [d], rfl, (c9.trans ca).sqL st8 (by simp), t8.ch (c9.trans ca) (by simp), okr, by omega, fun Hb lb cb nb eb => ?_⟩
            walk_at "g"
            refine ⟨lb, _, rfl, .inl (SqL.of eb), rfl, flat_niv _, ?_⟩
            refine ⟨_, rfl, ?_⟩
            refine ⟨?_, ca.trans cb⟩
            rw [show (if false = true then _ else inV (V.int ((j : Nat) : Int)) (niv (loudsOf (layD dd)))) = inV (V.int ((j : Nat) : Int)) (niv (loudsOf (layD dd))) from rfl, inV_niv]
            unfold quE
            rw [ek, hk0]
            cases hl : ldE (layD dd) j with
            | true => simp; exact (louds_mem _ _).mpr ⟨by omega, hl⟩
            | false => simp; intro z; rw [((louds_mem _ _).mp z).2] at hl; cases hl
        rintro b9 Ha ⟨rfl, ca⟩
        have da := ca.up _ _ d9 (by simp)
        have hz : (niv ((List.range j).filter fun u => !quE (layD dd) u)).length < sizeLine := by
          have h1 := List.length_filter_le (fun u => !quE (layD dd) u) (List.range j)
          rw [List.length_range] at h1
          rw [niv_len, sizeLine_eq]
          omega
        rw [List.range_succ, List.filter_append, List.filter_cons, List.filter_nil]
        refine iteB (fun h => ?_) (fun h => ?_)
        · walk_at "g"
          refine ⟨_, da, hz, Ch.wrN (c9.trans ca) nG da rfl, ?_⟩
          rw [upd_same, if_pos h, niv_app]
          rfl
        · refine ⟨c9.trans ca, ?_⟩
          rw [da, if_neg (by rw [h]; exact Bool.false_ne_true), List.append_nil]
      · rintro H9 ⟨c9, d9⟩
        rw [le] at d9
        refine g_cut (Mid := fun σ' H' => ∃ dv dd tl es, σ' = [some (.ref sc), some (.ref d), some (.int (i : Nat)), some dv, some (.ref tl), some (.ref G), x6, x7, x8, x9, x10, none, none, none] ∧ Dice K H' d ∧ Rep K H' dv (encDd dd) ∧ WfDd kPs dd ∧ szPs (innerD dd) ≤ 40 ∧ (triedL (layD dd)).length ≤ 6 ∧ H' tl = some (.lst es) ∧ TreeR K H' [d] es (layD dd) ∧ tl ≠ d) ?_ ?_
        · walk_at "g"
          have c79 := (c8.trans c9)
          have D9 := D8.ch c9 (by simp)
          refine iteB (fun h => ?_) (fun h => ?_)
          · walk_at "g"
            refine ⟨szle (by simp), fun ua Hua nua eua kua => ?_⟩
            walk_at "g"
            refine ⟨szle (by simp), fun ub Hub nub eub kub => ?_⟩
            walk_at "g"
            refine ⟨szle (by simp), fun uc Huc nuc euc kuc => ?_⟩
            walk_at "g"
            refine ⟨szle (by simp), fun ud Hud nud eud kud => ?_⟩
            walk_at "g"
            refine ⟨szle (by simp), fun ue Hue nue eue kue => ?_⟩
            walk_at "g"
            refine ⟨szle (by simp), fun uf Huf nuf euf kuf => ?_⟩
            have ku := kua.trans ((((kub.trans kuc).trans kud).trans kue).trans kuf)
            have ru : Rep K Huf (.ref uf) (encDd dd0) := (.tup (SqT.of euf) (.cons (.str _) (.cons (.tup (kuf.kt.t _ _ (SqT.of eue)) (.cons (.str _) (.cons (.tup ((kue.trans kuf).kt.t _ _ (SqT.of eud)) (.cons (.str _) (.cons (.tup (((((kub.trans kuc).trans kud).trans kue).trans kuf).kt.t _ _ (SqT.of eua)) (.cons (.str _) (.cons (.int _) .nil))) (.cons (.tup (((kud.trans kue).trans kuf).kt.t _ _ (SqT.of euc)) (.cons (.str _) (.cons (.int _) (.cons (.tup ((((kuc.trans kud).trans kue).trans kuf).kt.t _ _ (SqT.of eub)) .nil) .nil)))) .nil)))) .nil))) .nil)))
            have Du := D9.ch ku (by simp)
            have adu : ∀ x ∈ [d], Huf x ≠ none := fun x hx => by
              obtain ⟨_, _, _, _, _, y⟩ := Du
              simp at hx
              rw [hx, y.h]
              simp
            walk_at "g"
            refine ⟨_, dd0, [d], rfl, ru, by decide, adu, fun Hv tl2 es2 cv nv ev tv => ?_⟩
            walk_at "g"
            refine ⟨szle (by simp), fun wa Hwa nwa ewa kwa => ?_⟩
            walk_at "g"
            refine ⟨szle (by simp), fun wb Hwb nwb ewb kwb => ?_⟩
            walk_at "g"
            refine ⟨szle (by simp), fun wc Hwc nwc ewc kwc => ?_⟩
            walk_at "g"
            refine ⟨szle (by simp), fun wd Hwd nwd ewd kwd => ?_⟩
            walk_at "g"
            refine ⟨szle (by simp), fun we Hwe nwe ewe kwe => ?_⟩
            walk_at "g"
            refine ⟨szle (by simp), fun wf Hwf nwf ewf kwf => ?_⟩
            have kw := kwa.trans ((((kwb.trans kwc).trans kwd).trans kwe).trans kwf)
            have rw' : Rep K Hwf (.ref wf) (encDd dd0) := (.tup (SqT.of ewf) (.cons (.str _) (.cons (.tup (kwf.kt.t _ _ (SqT.of ewe)) (.cons (.str _) (.cons (.tup ((kwe.trans kwf).kt.t _ _ (SqT.of ewd)) (.cons (.str _) (.cons (.tup (((((kwb.trans kwc).trans kwd).trans kwe).trans kwf).kt.t _ _ (SqT.of ewa)) (.cons (.str _) (.cons (.int _) .nil))) (.cons (.tup (((kwd.trans kwe).trans kwf).kt.t _ _ (SqT.of ewc)) (.cons (.str _) (.cons (.int _) (.cons (.tup ((((kwc.trans kwd).trans kwe).trans kwf).kt.t _ _ (SqT.of ewb)) .nil) .nil)))) .nil)))) .nil))) .nil)))
            walk_at "g"
            refine ⟨_, dd0, tl2, es2, rfl, (Du.ch cv (by simp)).ch kw (by simp), rw', ?_, by decide, by decide +kernel, kw.up _ _ ev (by simp), tv.ch kw (by simp), Du.ne nv⟩
            refine ⟨rfl, by decide, ⟨⟨⟨by decide, by decide⟩, rfl, trivial⟩, by decide⟩, by decide⟩
          · have six : (triedL (layD dd)).length ≤ 6 := by
              have := of_decide_eq_false h
              rw [niv_len] at this
              unfold triedL
              omega
            refine g_next ⟨dv, dd, tl, es, rfl, D9, (rd7.kt c8.kt).kt c9.kt, W7, sz7, six, c9.up _ _ e8 (by simp), t8.ch c9 (by simp), ntd⟩
        rintro _ Ha ⟨dv, dd, tl, es, rfl, Da, rda, Wa, sza, six, ea, ta, ntd⟩
        walk_at "g"
        refine ⟨szle (by simp), fun bl Hb nb eb kb => ?_⟩
        walk_at "g"
        refine ⟨szle (by simp), fun fl Hc nc ec kc => ?_⟩
        walk_at "g"
        refine ⟨szle (by simp), fun pt Hd ne ed kd => ?_⟩
        walk_at "g"
        refine ⟨szle (by simp), fun sl He ne2 ee ke => ?_⟩
        have kbe := ((kb.trans kc).trans kd).trans ke
        have De := Da.ch kbe (by simp)
        have ebe := ((kc.trans kd).trans ke).up _ _ eb (by simp)
        have ece := (kd.trans ke).up _ _ ec (by simp)
        have eae := kbe.up _ _ ea (by simp)
        have nbd : bl ≠ d := Da.ne nb
        have ncd : fl ≠ d := (Da.ch kb (by simp)).ne nc
        have nbc : bl ≠ fl := ne_of_none eb nc
        have W := few_of sza six
        have o := okLE_D sza
        have okr := okrow_D dd
        have lE : (layD dd).length ≤ 41 := by rw [lenD]; omega
        have n1 := o.n1
        have te : TreeR K He [bl, fl, d] es (layD dd) := by
          have t1 : TreeR K Ha [bl, d] es (layD dd) := ta.more (fun ks z => by rw [nb] at z; cases z)
          have t2 : TreeR K Hb [fl, bl, d] es (layD dd) := (t1.ch kb (by simp)).more (fun ks z => by rw [nc] at z; cases z)
          exact (t2.ch ((kc.trans kd).trans ke) (by simp)).less (by simp)
        walk_at "g"
        refine ⟨tl, sl, bl, fl, es, layD dd, fun _ => 0, 0, none, [], [], rfl, SqL.of eae, te.less (by simp), o, okr, by omega, W.kd, by omega, by omega, ee, ?_, ?_, fun j hj => by omega, ebe, ece, .nil, nbc, ?_, sound_none, fun Hf B rs F cf ebf eff frf R lF => ?_⟩
        · have h1 := ne_of_none (kd.up _ _ (kc.up _ _ eb (by simp)) (by simp)) ne2
          have h2 := ne_of_none (kd.up _ _ ec (by simp)) ne2
          simp [Ne.symm h1, Ne.symm h2]
        · have h1 := ne_of_none ea nb
          have h2 := ne_of_none (kb.up _ _ ea (by simp)) nc
          simp [h1, h2]
        · have := cw_few six
          rw [Nat.sub_zero]
          show 0 + _ ≤ _
          omega
        have Df := De.ch cf (by simp [nbd.symm, ncd.symm])
        have ntl : tl ∉ [bl, fl] := by
          have h1 := ne_of_none ea nb
          have h2 := ne_of_none (kb.up _ _ ea (by simp)) nc
          simp [h1, h2]
        have eaf := cf.up _ _ eae ntl
        have le : es.length = (layD dd).length := ta.len
        have rdf := (rda.kt kbe.kt).kt cf.kt
        have lF2 : F.length ≤ 46656 := by
          have := cw_few six
          rw [Nat.sub_zero] at lF
          have lF' : F.length ≤ 0 + cw (layD dd) ((layD dd).length - 1) 0 := lF
          omega
        have C0 : ∀ t, TrE (layD dd) t (layD dd).length → Cov (layD dd) B F t := fun t Tt => R.cov t Tt fun k hk => by omega
        have S0 := R.snd
        have hF : F ≠ [] := by
          obtain ⟨t, Tt⟩ := tr_some o _ (Nat.le_refl (layD dd).length)
          obtain ⟨b, hb, _⟩ := C0 t Tt
          exact S0.ne b hb
        have flen : ∀ f ∈ F, f.length = (layD dd).length := fun f hf => by
          obtain ⟨t, _, rfl, _⟩ := S0.re f hf
          unfold fullL
          simp
        have sf := SqL.of (K := K) eff
        walk_at "g"
        refine ⟨by omega, by omega, fun DU nDU => ?_⟩
        rw [Int.toNat_natCast, le]
        refine lc_it (walk_range (n := (layD dd).length)) (fun j H' => Ch K [] Hf H' ∧ ∃ μ : Nat → Int, H' DU = some (.lst (hv j μ)) ∧ ∀ k, k < j → (∃ f ∈ F, f.getD k 0 = μ k) ∧ ∀ f ∈ F, μ k ≤ f.getD k 0) ⟨Ch.new nDU, fun _ => 0, by rw [upd_same]; rfl, fun k hk => by omega⟩ (fun i H' _ _ => trivial) ?_ ?_
        · rintro j x1 _ Hg hj ⟨cg, μ, dg, Mg⟩ ⟨rfl, hx⟩
          cases hx
          have sfg := cg.sqL sf (by simp)
          have frg := frf.ch cg (by simp)
          rw [show (fun i : Nat => V.int (0 + (i : Int))) j = V.int ((j : Nat) : Int) by simp]
          walk_at "g"
          refine ⟨rfl, ?_⟩
          simp only [tYes, ↓reduceIte]
          walk_at "g"
          refine ⟨⟨_, sfg⟩, fun IN nIN => ?_⟩
          refine lc_it (walk_list (xs := rs)) (fun q H' => Ch K [] Hg H' ∧ H' IN = some (.lst (iv ((F.take q).map fun f => f.getD j 0)))) ⟨Ch.new nIN, by rw [upd_same, List.take_zero]; rfl⟩ (fun i H' _ p => p.1.sqL sfg (by simp)) ?_ ?_
          · rintro q y _ Hh hq ⟨ch, dh⟩ ⟨rfl, hy⟩
            obtain ⟨f, fa, hf, rfl, efa, _⟩ := (frg.ch ch (by simp)).at hy
            have fl1 := flen f (List.mem_of_getElem? hf)
            have g1 := atI_nat (iv_at (fs := f) (k := j) (by omega))
            have sfa := SqL.of (K := K) efa
            have hz : (iv ((F.take q).map fun f => f.getD j 0)).length < sizeLine := by
              rw [iv_len, List.length_map, List.length_take, sizeLine_eq]
              omega
            walk_at "g"
            refine ⟨rfl, ?_⟩
            simp only [tYes, ↓reduceIte]
            walk_at "g"
            refine ⟨_, dh, hz, Ch.wrN ch nIN dh rfl, ?_⟩
            rw [upd_same, take_snoc hf, List.map_append]
            simp [iv]
          · rintro Hh ⟨ch, dh⟩
            rw [frf.len, List.take_length] at dh
            walk_at "g"
            refine ⟨IN, F.map (fun f : List Int => f.getD j 0), rfl, SqL.of dh, by simpa using hF, fun m hm1 hm2 => ?_⟩
            have dgh := ch.up _ _ dg (by simp)
            have hz : (hv j μ).length < sizeLine := by rw [hv_len, sizeLine_eq]; omega
            walk_at "g"
            refine ⟨_, dgh, hz, Ch.wrN (cg.trans ch) nDU dgh rfl, fupd μ j m, by rw [upd_same, hv_snoc], fun k hk => ?_⟩
            by_cases e : k = j
            · subst e
              rw [fupd_same]
              refine ⟨?_, fun f hf => hm2 _ (List.mem_map.mpr ⟨f, hf, rfl⟩)⟩
              obtain ⟨f, hf, e⟩ := List.mem_map.mp hm1
              exact ⟨f, hf, e⟩
            · rw [fupd_ne e]
              exact Mg k (by omega)
        · rintro Hg ⟨cg, μ, dg, Mg⟩
          have Dg := Df.ch cg (by simp)
          have rdg := rdf.kt cg.kt
          have ebg := cg.up _ _ ebf (by simp)
          have efg := cg.up _ _ eff (by simp)
          have frg := frf.ch cg (by simp)
          have nDUd : DU ≠ d := Df.ne nDU
          have hmu : ∀ {fs : List Int} {h : Nat → Int}, Best (linksOf (layD dd)) fs h → hv (layD dd).length μ = hv (layD dd).length h ∧ B = some (turnsE (layD dd) h) ∧ (List.range (layD dd).length).map h ∈ F := fun {fs h} b => by
            obtain ⟨h1, h2, h3⟩ := search_best W b S0 C0
            refine ⟨?_, h1, h2⟩
            unfold hv
            refine List.map_congr_left fun k hk => ?_
            have hk := List.mem_range.mp hk
            obtain ⟨⟨f, hf, e⟩, m2⟩ := Mg k hk
            obtain ⟨x, rfl, hx⟩ := h3 f hf
            have a1 := hx k hk
            have gx : ∀ y : Nat → Int, ((List.range (layD dd).length).map y).getD k 0 = y k := fun y => by
              rw [List.getD_eq_getElem?_getD, List.getElem?_map, List.getElem?_range hk]
              rfl
            rw [gx] at e
            have a2 := m2 _ h2
            rw [gx] at a2
            rw [show μ k = h k by omega]
          walk_at "g"
          refine ⟨by decide, by decide, ?_⟩
          refine for_rng (n := 2) (fun j σ' H' => ∃ x9 x10, σ' = [some (.ref sc), some (.ref d), some (.int (i : Nat)), some dv, some (.ref tl), some (.ref G), some (.ref bl), some (.ref fl), some (.ref DU), x9, x10, none, none, none] ∧ Ch K [] Hg H') ⟨_, _, rfl, Ch.refl⟩ ?_ ?_
          · rintro j _ Hh hj ⟨x9, x10, rfl, ch⟩
            walk_at "g"
            refine ⟨dv, dd, kPs, rfl, rdg.kt ch.kt, Wa, sza, fun Hi sl2 fs h ci ni ei b => ?_⟩
            obtain ⟨hm1, hm2, hm3⟩ := hmu b
            have chi := ch.trans ci
            have dgi := chi.up _ _ dg (by simp)
            rw [hm1] at dgi
            have ebi := chi.up _ _ ebg (by simp)
            rw [hm2] at ebi
            have efi := chi.up _ _ efg (by simp)
            have fri := frg.ch chi (by simp)
            have rdi := rdg.kt chi.kt
            have hpos := b.pos
            have hhigh := b.high (okln_of o)
            walk_at "g"
            refine g_mid (fun b H' => b = false ∧ Ch K [] Hi H') ?_ ?_
            · walk_at "g"
              refine ⟨_, _, rfl, lk_hv ei dgi (by omega), ?_⟩
              walk_at "g"
              walk_at "no"
              refine ⟨dv, sl2, dd, kPs, h, rfl, rdi, Wa, sza, ei, fun u hu => ⟨hpos u, by have := hhigh u hu; omega⟩, b.fe, fun Hk ck => ?_⟩
              rw [tnl_turns]
              have ebk := SqL.of (K := K) (ck.up _ _ ebi (by simp))
              have g0 : atI (bestV (some (turnsE (layD dd) h))) 0 = some (.int (turnsE (layD dd) h)) := rfl
              walk_at "g"
              refine ⟨_, _, rfl, .int _, ?_⟩
              walk_at "g"
              walk_at "no"
              have dgk := ck.up _ _ dgi (by simp)
              rw [hv_iv] at dgk
              refine ⟨intD ((List.range (layD dd).length).map h), F.map intD, .lst (SqL.of dgk) (dpAll_ints _), .lst (SqL.of (ck.up _ _ efi (by simp))) (dp_found (fri.ch ck (by simp))), intD_shaped _, intDs_shaped _, ?_⟩
              rw [in_found hm3]
              refine ⟨_, rfl, rfl, ck⟩
            rintro _ Hj ⟨rfl, cj⟩
            walk_at "g"
            walk_at "no"
            have eij := cj.up _ _ ei (by simp)
            have hz : (hv (layD dd).length h).length < sizeLine := by rw [hv_len, sizeLine_eq]; omega
            walk_at "g"
            exact ⟨_, _, rfl, Ch.wrN (chi.trans cj) (ch.free ni (by simp)) eij rfl⟩
          · rintro _ Hh ⟨x9, x10, rfl, ch⟩
            exact ⟨_, _, _, _, _, _, _, _, _, rfl, Dg.ch ch (by simp)⟩
    · rintro σ H2 ⟨x2, x3, x4, x5, x6, x7, x8, x9, x10, rfl, D2⟩
      walk_at "g"
      exact q H2
end
end K3
end

section
set_option maxRecDepth 100000
set_option maxHeartbeats 1000000
open Bq L2
/-- one step of a reading; what is left are side goals and places to think -/
local macro_rules | `(tactic| walk_at "g1") => `(tactic| first
  | with_reducible refine' g_seq ?_ | with_reducible refine' g_asg ?_ | with_reducible refine' g_drop ?_ | with_reducible refine' g_ret ?_ | with_reducible refine' g_ifS ?_ | with_reducible refine' g_asgG ?_
  | ((with_reducible refine' g_var ?hv ?_); (case hv => rfl))
  | with_reducible refine' g_c ?_ | with_reducible refine' g_op ?_ | with_reducible refine' g_un ?_ | with_reducible refine' g_I0 ?_ | with_reducible refine' g_U ?_
  | with_reducible refine' g_test ?_ | with_reducible refine' g_tB ?_ | with_reducible refine Exists.intro _ (And.intro rfl ?_) 
  | ((with_reducible refine' g_andP ?ha ?hb ?_); (case ha => intro R q; walk_at "g"; exact q); (case hb => intro R q; walk_at "g"; exact q))
  | ((with_reducible refine' g_orP ?ha ?hb ?_); (case ha => intro R q; walk_at "g"; exact q); (case hb => intro R q; walk_at "g"; exact q))
  | with_reducible refine' g_and ?_ | with_reducible refine' g_or ?_ | with_reducible refine' g_not ?_
  | with_reducible refine' g_andV ?_ | with_reducible refine' g_orV ?_ | with_reducible refine' g_notV ?_ | with_reducible refine' g_if ?_ | with_reducible refine' g_nil ?_ | with_reducible refine' g_cons ?_
  | with_reducible refine' g_tup ?_ | with_reducible refine' g_lst ?_ | with_reducible refine' g_CB ?_ | with_reducible refine' g_Fn ?_ | with_reducible refine' g_next ?_ | with_reducible refine' g_retN ?_
  | with_reducible refine' g_name ?_ | with_reducible refine' g_sub ?_
  | ((with_reducible refine' g_ixL ?hs ?he ?_); (case hs => walk_at "lk"); (case he => walk_at "at"))
  | ((with_reducible refine' g_ixT ?hs ?he ?_); (case hs => walk_at "lk"); (case he => walk_at "at"))
  | ((with_reducible refine' g_setL ?hs ?he ?_); (case hs => walk_at "hp"); (case he => rfl))
  | ((with_reducible refine' g_app ?hs ?hz ?_); (case hs => walk_at "hp"); (case hz => walk_at "sz"))
  | ((with_reducible refine' ⟨_, _, rfl, Or.inl ?hs, ?_⟩); (case hs => walk_at "lk"))
  | ((with_reducible refine' ⟨_, _, rfl, Or.inr ?hs, ?_⟩); (case hs => walk_at "lk"))
  | with_reducible refine' g_BM ?_ | with_reducible refine' g_BM0 ?_ | ((with_reducible refine' g_tyL ?hs ?_); (case hs => walk_at "lk"))
  | with_reducible refine' g_sl ?_ | with_reducible refine' g_noPart ?_ | with_reducible refine' g_part ?_
  | ((with_reducible refine' g_inT ?hs ?fx ?fs ?_); (case hs => walk_at "lk"); (case fx => rfl); (case fs => rfl))
  | with_reducible refine' g_pair ?_ | with_reducible refine' g_pair0 ?_ | with_reducible refine' g_disp ?_
  | with_reducible refine' g_for ?_ | with_reducible refine' g_tupC ?_ | with_reducible refine' g_lstC ?_ | ((with_reducible refine' g_lens ?_)) | with_reducible refine' g_dg ?_ | with_reducible refine' g_lc ?_ | with_reducible refine' g_rng1 ?_ | with_reducible refine' g_ilist ?_ | with_reducible refine' g_itup ?_
  | ((with_reducible refine' ⟨_, _, rfl, ?hd, ?_⟩); (case hd => walk_at "dg"))
  | ((with_reducible refine' g_eqNil ?hs ?hz ?_); (case hs => walk_at "lk"); (case hz => walk_at "lk"))
  | ((with_reducible refine' g_neNil ?hs ?hz ?_); (case hs => walk_at "lk"); (case hz => walk_at "lk"))
  | with_reducible refine Or.inl ⟨_, rfl, ?_⟩
  | with_reducible refine Or.inr ⟨_, rfl, ?_⟩
  | ((with_reducible refine' g_eq ?hs ?_); (case hs => rfl))
  | ((with_reducible refine' g_ne ?hs ?_); (case hs => rfl))
  | ((with_reducible refine' g_I ?hc ?_); (case hc => walk_at "ar")))
/-- arithmetic's side conditions -/
local macro_rules | `(tactic| walk_at "ar") => `(tactic| (first
  | (show (0 : Int) < _; first | omega | decide) | (show (0 : Int) < _ ∧ _; constructor <;> omega) | (show ¬ (_ : Int) = _; omega) | (show (_ : Int) ≠ _ ∧ _; constructor <;> omega)
  | (show (-(2 ^ 64) < _ ∧ _) ∨ _; (first | (left; constructor <;> omega) | (right; constructor <;> omega))) | (show (0 : Int) ≤ _ ∧ _ ∧ _; refine ⟨by omega, by omega, by decide⟩)))
/-- what stands at an index -/
local macro_rules | `(tactic| walk_at "at") => `(tactic| first | rfl | assumption)
/-- what stands at an address -/
local macro_rules | `(tactic| walk_at "hp") => `(tactic| first | assumption | exact upd_same | ((refine' Eq.trans (upd_ne ?hn) ?hm); (case hm => walk_at "hp"); (case hn => walk_at "ne")))
/-- two places are two -/
local macro_rules | `(tactic| walk_at "ne") => `(tactic| first
  | assumption | exact Ne.symm (by assumption)
  | ((refine' ne_of_none ?ha ?hb); (case hb => assumption); (case ha => walk_at "hp")) | ((refine' Ne.symm (ne_of_none ?ha ?hb)); (case hb => assumption); (case ha => walk_at "hp")))
/-- what a dict tells -/
local macro_rules | `(tactic| walk_at "dg") => `(tactic| first | assumption)
/-- a length -/
local macro_rules | `(tactic| walk_at "sz") => `(tactic| first | (show _ ≤ sizeLine; decide) | (show _ < sizeLine; decide) | assumption | exact szlt (by simp) | exact szle (by simp))
/-- a list or tuple that stands -/
local macro_rules | `(tactic| walk_at "lk") => `(tactic| first | assumption | exact SqL.of (by assumption) | exact SqT.of (by assumption) | exact SqL.of upd_same | exact SqT.of upd_same | (refine' FzL.sq ?hm; (case hm => walk_at "fz")))
/-- a list that nobody writes -/
local macro_rules | `(tactic| walk_at "fz") => `(tactic| first | assumption | ((refine' FzL.uw ?hm ?hx); (case hx => walk_at "hp"); (case hm => walk_at "fz")) | ((refine' FzL.nw ?hm ?hx); (case hx => assumption); (case hm => walk_at "fz")))
/-- as far as it goes by itself -/
local macro_rules | `(tactic| walk_at "g") => `(tactic| repeat walk_at "g1")
/-- the body's reading, its places in short -/
local macro_rules | `(tactic| walk_at "go") => `(tactic| ((try dsimp only [cxOf, Cx.nox, Cx.wish]); walk_at "g"))
namespace K3
open PySem PySem.Spec PyProof.Rows L2 Bq
section
variable {P : Program} {w : World} {K : PySem.W.Frag} {mg : Str → Option Value} {base : Heap}
/-! ### what the top has left -/
theorem all_mk {fl : Addr} {h : Heap} (X : K.In h) (G : h.Ns mainGlobals mg) (hfa : mg ("law" : Str) = some (.ref fl)) (c : He.SaysT K3.fa K3.fn K3.ts w K) (t1 : tupsB K = true) (t2 : tabsB K = true) (t3 : lstsB K = true) (t4 : sdsB K = true) :
    ∃ fd : FuncData, (∀ (s : Shared) (u : Value), BindsTo s fd ⟨[u], []⟩ [("_law_script", u)]) ∧ ∀ base : Heap, K.In base → base.Ns mainGlobals mg → FnOk P w K mg base CX0 70 fl fd ["_law_script"] (spLaw K) := by
  obtain ⟨fd, F⟩ := c.d.def_ 37 (d := d_law) rfl
  have e := hfa.symm.trans (He.glo_ok X G (c.d.fact 37 (f := .glo "law") rfl))
  cases e
  have b := FunD.bindsA (ps := ["_law_script"]) F fun _ _ _ _ _ _ us hl => match us, hl with | [_], _ => rfl
  exact ⟨fd, fun s v => b s [v] rfl, fun base X' G' => ok_law ⟨c, X', G', t1, t2, t3, t4⟩ F⟩
end
end K3
end

section
set_option maxRecDepth 100000
set_option maxHeartbeats 0
open PySem PySem.W PyProof.Rows
theorem PySem.Challenge.cw_queuemill_k09_least_by_trying_all_holds : PySem.Challenge.rw_queuemill_k09_least_by_trying_all.Holds := by
  w_on; o_law; k_head; (case hw => w_witness2)
  k_fill
  refine L2.walk_ofK (l := PySem.Challenge.rw_queuemill_k09_least_by_trying_all) (n := 63) (k := 70) (x := "_law_script") (CX := L2.CX0) (sp := K3.spLaw) rfl (by decide) rfl ⟨rfl, by decide, by decide⟩ (fun w h Y => PySem.W.kIn_of Y) ?F (fun K H a ns hl hO hS => ⟨a, ns, rfl, Bq.FzL.of hO hS, hl, fun _ => rfl⟩) (fun _ _ _ _ z => z)
  case F =>
    intro w mg fa h KX G hmg
    refine' K3.all_mk KX G hmg ?c ?t1 ?t2 ?t3 ?t4
    (case c => first | (unfold He.SaysT; kernel_rfl)); (case t1 => first | kernel_rfl); (case t2 => first | kernel_rfl); (case t3 => first | kernel_rfl); (case t4 => first | kernel_rfl)
end
