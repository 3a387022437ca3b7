import PyProof.Rows.All
import Wide.All
import OpenK.AllK
import Wide.FinOn
import HandS.ForMost
import HandS.Defaults
import HandS.IsInst
import HandS.TupAny
import HandS.Small
import HandS.Evl
import PyProof.NeKinds
import HandS.Star
import PyProof.DictUpdate
import PyProof.Rows.MatchSeqLen
import PyProof.RulesMatchSeq
import HandS.HeadHook1
import HandS.HeadHook2
import HandS.HeadHook3
import KE.GoesMore
import KE.GoesEnum
import HandS.Iter
import PyProof.EnumMake
import PyProof.Draws
import KE.KUnpackStar
import HandS.Text
import HandS.StrMore
import HandS.FStr
import KE.IntTextLaws
import KE.KStateDown
import HandS.WordsExc
import HandS.Head0
import HandS.Head1
import HandS.Head2
import HandS.HeadEnd
import HandS.HeadHook4
import HandS.Zip
import HandS.Rev
import HandS.NoneIn
import HandS.Flow
import PyProof.StrLawsAffix
import HandS.Style
import HandS.Walk
import PyProof.EqKinds
import PyProof.ReprRoads
import HandS.FStrTup
import HandS.Ends
import PySem.Challenge.RW_queuemill_k18_texts
set_option Elab.async false
set_option linter.all false
section
set_option maxRecDepth 100000
set_option maxHeartbeats 1000000
namespace Bq
open PySem PySem.Spec PyProof.Rows L2

/-! ### functions by name -/
/-- the module's name x is a function that keeps the promise sp, at level k -/
def Fn (P : Program) (w : World) (K : PySem.W.Frag) (mg : Str → Option Value) (base : Heap) (CX : CXT) (k : Nat) (x : Str) (ps : List Str) (sp : Sp) : Prop :=
  ∃ f fd, FnOk P w K mg base CX k f fd ps sp ∧ Binds K fd ps [] ∧ mg x = some (.ref f) ∧ PySem.W.keepIn K (.ref f) = true
theorem Fn.mono {P : Program} {w : World} {K : PySem.W.Frag} {mg : Str → Option Value} {base : Heap} {CX : CXT} {j k : Nat} {x : Str} {ps : List Str} {sp : Sp} (F : Fn P w K mg base CX j x ps sp) (h : j ≤ k) : Fn P w K mg base CX k x ps sp := by
  obtain ⟨f, fd, a, b, c, d⟩ := F
  exact ⟨f, fd, a.mono h, b, c, d⟩
theorem rmm {j k : Nat} {A : Around} (hr : Room k A) (h : j ≤ k := by first | decide | omega) : Room j A := hr.mono h
def tFn (sp : Sp) (E : XK) (t : TA) : TE := fun σ H Q => t σ H fun vs H1 => sp vs H1 Q E
section
variable {X : Cx} {CX : CXT} {k : Nat} {x : Str} {ps : List Str} {sp : Sp} {E : XK} {e : Expr} {es : List Expr} {t : TA} {p pos : Pos}
theorem pe_fn (F : Fn X.prog X.w X.K X.mg X.base CX k x ps sp) (hr : Room k X.A) (hg : Gl X x) (hx : Passes CX X E) (ha : PA X (e :: es) t) (hdb : (x == ("__debug__" : Str)) = false := by decide)
    (he : starEach (e :: es) X.env = (false, eval e X.env) :: starEach es X.env := by rfl) (hpl : (backTo pos (starEach es X.env)).any (·.1) = false := by rfl) :
    PE X (.Call (.Name x p) (e :: es) [] pos) (tFn sp E t) := by
  obtain ⟨f, fd, G, b, m, kp⟩ := F
  have h := pe_call (p := p) (pos := pos) (x := x) G hr hg m kp b .nil hx ha hdb he hpl
  have e1 : tCall sp [] E t = tFn sp E t := by
    funext σ H Q
    unfold tCall tFn
    simp only [List.append_nil]
  rw [← e1]
  exact h
end

/-! ### heaps: what a call may change -/
def Up (S : List Addr) (H H' : Hp) : Prop := ∀ b o, H b = some o → b ∉ S → H' b = some o
structure Kt (K : PySem.W.Frag) (H H' : Hp) : Prop where
  t : ∀ a xs, SqT K H a xs → SqT K H' a xs
  f : ∀ a ob u, H a = some (.frz ob u) → H' a = some (.frz ob u)
structure Ch (K : PySem.W.Frag) (S : List Addr) (H H' : Hp) : Prop where
  up : Up S H H'
  kt : Kt K H H'
/-- a list that nobody writes -/
def FzL (K : PySem.W.Frag) (H : Hp) (a : Addr) (xs : List V) : Prop := (∃ o, H a = some (.frz o (.lst xs))) ∨ ∀ H', SqL K H' a xs
section
variable {K : PySem.W.Frag} {S S' : List Addr} {H H1 H2 : Hp} {a p : Addr} {o u : HO} {xs : List V}
theorem Kt.trans (c : Kt K H H1) (d : Kt K H1 H2) : Kt K H H2 := ⟨fun a xs h => d.t a xs (c.t a xs h), fun a ob u h => d.f a ob u (c.f a ob u h)⟩
theorem Ch.refl : Ch K S H H := ⟨fun _ _ h _ => h, fun _ _ h => h, fun _ _ _ h => h⟩
theorem Ch.trans (c : Ch K S H H1) (d : Ch K S H1 H2) : Ch K S H H2 := ⟨fun b o h n => d.up b o (c.up b o h n) n, c.kt.trans d.kt⟩
theorem Ch.mono (c : Ch K S H H1) (h : ∀ a ∈ S, a ∈ S') : Ch K S' H H1 := ⟨fun b o e n => c.up b o e fun z => n (h b z), c.kt⟩
theorem kt_of (h : ∀ b ys, H b = some (.tup ys) → H1 b = some (.tup ys)) (f : ∀ b ob u, H b = some (.frz ob u) → H1 b = some (.frz ob u)) : Kt K H H1 := ⟨fun b ys q => by
  rcases q with (q | ⟨ob, q⟩) | q
  · exact .inl (.inl (h b ys q))
  · exact .inl (.inr ⟨ob, f b ob _ q⟩)
  · exact .inr q, f⟩
theorem Ch.new (n : H p = none) : Ch K S H (upd H p o) := by
  have h : ∀ b u, H b = some u → upd H p o b = some u := fun b u e => by rw [upd_ne (ne_of_none e n)]; exact e
  exact ⟨fun b u e _ => h b u e, kt_of (fun b ys e => h b _ e) fun b ob u e => h b _ e⟩
def notT : HO → Bool
  | .tup _ => false
  | .frz _ _ => false
  | _ => true
theorem Ch.wr (h : H a = some u) (ht : notT u = true) (ha : a ∈ S) : Ch K S H (upd H a o) := by
  refine ⟨fun b v e n => ?_, kt_of (fun b ys e => ?_) fun b ob v e => ?_⟩
  · rw [upd_ne (fun z => n (by rw [z]; exact ha))]; exact e
  · rw [upd_ne (fun z => by rw [z, h] at e; cases e; cases ht)]; exact e
  · rw [upd_ne (fun z => by rw [z, h] at e; cases e; cases ht)]; exact e
theorem Ch.wrL (h : H a = some (.lst xs)) (ha : a ∈ S) : Ch K S H (upd H a o) := Ch.wr h rfl ha
/-- a new thing written again -/
theorem Ch.wrN (c : Ch K S H H1) (n : H a = none) (h : H1 a = some u) (ht : notT u = true) : Ch K S H (upd H1 a o) := by
  have w : Ch K [a] H1 (upd H1 a o) := Ch.wr h ht (by simp)
  refine ⟨fun b v e m => ?_, c.kt.trans w.kt⟩
  rw [upd_ne (ne_of_none e n)]; exact c.up b v e m
theorem Ch.hide (n : H p = none) (c : Ch K S' (upd H p o) H1) (h : ∀ a ∈ S', a ∈ S ∨ a = p) : Ch K S H H1 := by
  refine ⟨fun b v e m => ?_, (Ch.new (S := S) n).kt.trans c.kt⟩
  have hb := ne_of_none e n
  refine c.up b v (by rw [upd_ne hb]; exact e) fun z => ?_
  rcases h b z with q | q
  · exact m q
  · exact hb q
theorem Ch.sqL (c : Ch K S H H1) (h : SqL K H a xs) (n : a ∉ S) : SqL K H1 a xs := by
  rcases h with (h | ⟨ob, h⟩) | h
  · exact .inl (.inl (c.up _ _ h n))
  · exact .inl (.inr ⟨ob, c.up _ _ h n⟩)
  · exact .inr h
theorem Ch.sqT (c : Ch K S H H1) (h : SqT K H a xs) : SqT K H1 a xs := c.kt.t _ _ h
theorem Ch.free (c : Ch K S H H1) (n : H1 p = none) (hp : p ∉ S) : H p = none := by
  cases q : H p with
  | none => rfl
  | some v => rw [c.up p v q hp] at n; cases n
theorem FzL.kt (k : Kt K H H1) (h : FzL K H a xs) : FzL K H1 a xs := h.imp (fun ⟨o, e⟩ => ⟨o, k.f _ _ _ e⟩) id
theorem FzL.sq (h : FzL K H a xs) : SqL K H a xs := h.elim (fun ⟨o, e⟩ => .inl (.inr ⟨o, e⟩)) fun q => q H
theorem FzL.uw {d : Addr} {ys : List V} (h : FzL K H a xs) (e : H d = some (.lst ys)) : FzL K (upd H d o) a xs := h.kt (Ch.wrL (S := [d]) e (by simp)).kt
theorem FzL.nw {d : Addr} (h : FzL K H a xs) (e : H d = none) : FzL K (upd H d o) a xs := h.kt (Ch.new (S := []) e).kt
theorem FzL.of (hO : Only H) (h : SqL K H a xs) : FzL K H a xs := by
  rcases h with (h | ⟨ob, h⟩) | h
  · rcases hO a with n | ⟨o, ys, e⟩
    · rw [h] at n; cases n
    · rw [h] at e; cases e
  · exact .inl ⟨ob, h⟩
  · exact .inr fun _ => .inr h
end

/-! ### data in tuples -/
inductive T where
  | int (i : Int)
  | str (s : Str)
  | tup (ts : List T)
mutual
inductive Rep (K : PySem.W.Frag) (H : Hp) : V → T → Prop where
  | int (i : Int) : Rep K H (.int i) (.int i)
  | str (s : Str) : Rep K H (.str s) (.str s)
  | tup {a : Addr} {vs : List V} {ts : List T} (h : SqT K H a vs) (r : Reps K H vs ts) : Rep K H (.ref a) (.tup ts)
inductive Reps (K : PySem.W.Frag) (H : Hp) : List V → List T → Prop where
  | nil : Reps K H [] []
  | cons {v : V} {t : T} {vs : List V} {ts : List T} (h : Rep K H v t) (r : Reps K H vs ts) : Reps K H (v :: vs) (t :: ts)
end
section
variable {K : PySem.W.Frag} {H H1 : Hp}
mutual
theorem Rep.kt (k : Kt K H H1) : ∀ {v : V} {t : T}, Rep K H v t → Rep K H1 v t
  | _, _, .int i => .int i
  | _, _, .str s => .str s
  | _, _, .tup h r => .tup (k.t _ _ h) (Reps.kt k r)
theorem Reps.kt (k : Kt K H H1) : ∀ {vs : List V} {ts : List T}, Reps K H vs ts → Reps K H1 vs ts
  | _, _, .nil => .nil
  | _, _, .cons h r => .cons (Rep.kt k h) (Reps.kt k r)
end
theorem Reps.len : ∀ {vs : List V} {ts : List T}, Reps K H vs ts → vs.length = ts.length
  | _, _, .nil => rfl
  | _, _, .cons _ r => congrArg Nat.succ r.len
theorem Reps.get : ∀ {vs : List V} {ts : List T} {i : Nat} {v : V}, Reps K H vs ts → vs[i]? = some v → ∃ t, ts[i]? = some t ∧ Rep K H v t
  | _, _, _, _, .nil, e => by simp at e
  | _, _, 0, v, .cons h _, e => by simp at e; subst e; exact ⟨_, rfl, h⟩
  | _, _, i + 1, v, .cons _ r, e => by
    obtain ⟨t, h1, h2⟩ := Reps.get (i := i) (v := v) r (by simpa using e)
    exact ⟨t, by simpa using h1, h2⟩
theorem Reps.getT : ∀ {vs : List V} {ts : List T} {i : Nat} {t : T}, Reps K H vs ts → ts[i]? = some t → ∃ v, vs[i]? = some v ∧ Rep K H v t
  | _, _, _, _, .nil, e => by simp at e
  | _, _, 0, t, .cons h _, e => by simp at e; subst e; exact ⟨_, rfl, h⟩
  | _, _, i + 1, t, .cons _ r, e => by
    obtain ⟨v, h1, h2⟩ := Reps.getT (i := i) (t := t) r (by simpa using e)
    exact ⟨v, by simpa using h1, h2⟩
theorem Reps.append : ∀ {vs us : List V} {ts ss : List T}, Reps K H vs ts → Reps K H us ss → Reps K H (vs ++ us) (ts ++ ss)
  | _, _, _, _, .nil, q => q
  | _, _, _, _, .cons h r, q => .cons h (Reps.append r q)
theorem Reps.drop : ∀ {vs : List V} {ts : List T} (n : Nat), Reps K H vs ts → Reps K H (vs.drop n) (ts.drop n)
  | _, _, 0, r => r
  | _, _, _ + 1, .nil => .nil
  | _, _, n + 1, .cons _ r => Reps.drop n r
theorem Reps.take : ∀ {vs : List V} {ts : List T} (n : Nat), Reps K H vs ts → Reps K H (vs.take n) (ts.take n)
  | _, _, 0, _ => .nil
  | _, _, _ + 1, .nil => .nil
  | _, _, n + 1, .cons h r => .cons h (Reps.take n r)
theorem Rep.tupI {v : V} {ts : List T} (r : Rep K H v (.tup ts)) : ∃ a vs, v = .ref a ∧ SqT K H a vs ∧ Reps K H vs ts := by
  cases r with
  | tup h q => exact ⟨_, _, rfl, h, q⟩
theorem Rep.intI {v : V} {i : Int} (r : Rep K H v (.int i)) : v = .int i := by cases r; rfl
theorem Rep.strI {v : V} {i : Str} (r : Rep K H v (.str i)) : v = .str i := by cases r; rfl
theorem Reps.nilI {vs : List V} (r : Reps K H vs []) : vs = [] := by cases r; rfl
theorem Reps.consI {vs : List V} {t : T} {ts : List T} (r : Reps K H vs (t :: ts)) : ∃ v us, vs = v :: us ∧ Rep K H v t ∧ Reps K H us ts := by
  cases r with
  | cons h q => exact ⟨_, _, rfl, h, q⟩
end

/-! ### readings, step by step -/
section
variable {K : PySem.W.Frag} {σ : L2.St} {H : Hp} {D : Ends} {Q : VK} {QB : Bool → Hp → Prop} {QL : List V → Hp → Prop} {te ta tb : TE} {t1 t2 ts tu : TS} {c u : TT} {tl tr : TA} {x y v : V} {p : Addr} {xs : List V} {i j : Int} {n : Nat} {b : Bool}
theorem g_seq (h : t1 { D with nx := t2 D } σ H) : tSeq t1 t2 D σ H := h
theorem g_asg (h : te σ H fun x H1 => D.nx (σ.set n (some x)) H1) : tAsg te (gName n) D σ H := h
theorem g_asgG {g : TG} (h : te σ H fun x H1 => g x σ H1 D.nx) : tAsg te g D σ H := h
theorem g_name {R : L2.St → Hp → Prop} (h : R (σ.set n (some v)) H) : gName n v σ H R := h
theorem g_sub {t : TSet} {R : L2.St → Hp → Prop} (h : ta σ H fun o H1 => tb σ H1 fun i H2 => t o i v H2 fun H3 => R σ H3) : gSub ta tb t v σ H R := h
theorem g_drop (h : te σ H fun _ H1 => D.nx σ H1) : tDrop te D σ H := h
theorem g_ret (h : te σ H D.rt) : tRet te D σ H := h
theorem g_retN (h : D.rt .non H) : tRetN D σ H := h
theorem g_next (h : D.nx σ H) : tNext D σ H := h
theorem g_ifS (h : c σ H fun b H1 => if b = true then t1 D σ H1 else t2 D σ H1) : tIfS c t1 t2 D σ H := h
theorem g_var (e : σ[n]? = some (some v)) (h : Q v H) : tVar n σ H Q := ⟨v, e, h⟩
theorem g_c (h : Q v H) : tC v σ H Q := h
theorem g_op {r : R2} (h : ta σ H fun x H1 => tb σ H1 fun y H2 => r x y H2 Q) : tOp r ta tb σ H Q := h
theorem g_un {r : V → Hp → VK → Prop} (h : ta σ H fun x H1 => r x H1 Q) : tUn r ta σ H Q := h
theorem g_I0 {g : Int → Int → V} (h : Q (g i j) H) : rI0 g (.int i) (.int j) H Q := ⟨i, j, rfl, rfl, h⟩
theorem g_I {C : Int → Int → Prop} {g : Int → Int → V} (hc : C i j) (h : Q (g i j) H) : rI C g (.int i) (.int j) H Q := ⟨i, j, rfl, rfl, hc, h⟩
theorem g_U {g : Int → V} (h : Q (g i) H) : rU g (.int i) H Q := ⟨i, rfl, h⟩
theorem g_eq (hs : scal x y = true) (h : Q (.bl (decide (x = y))) H) : rEq x y H Q := ⟨hs, h⟩
theorem g_ne (hs : scal x y = true) (h : Q (.bl (!decide (x = y))) H) : rNe x y H Q := ⟨hs, h⟩
theorem g_test (h : te σ H fun x H' => ∃ k, x = .bl k ∧ QB k H') : tTest te σ H QB := h
theorem g_tB (h : te σ H fun x H' => ∃ k, x = .bl k ∧ QB k H') : tB te σ H QB := h
theorem g_bl (h : QB b H) : ∃ k, V.bl b = .bl k ∧ QB k H := ⟨b, rfl, h⟩
theorem g_and (h : c σ H fun b H1 => if b = true then u σ H1 QB else QB false H1) : tAnd c u σ H QB := h
theorem g_or (h : c σ H fun b H1 => if b = true then QB true H1 else u σ H1 QB) : tOr c u σ H QB := h
theorem g_andP {a b : Bool} (h1 : ∀ R : Bool → Hp → Prop, R a H → c σ H R) (h2 : ∀ R : Bool → Hp → Prop, R b H → u σ H R) (k : QB (a && b) H) : tAnd c u σ H QB := by
  refine h1 _ ?_
  cases a with
  | true => rw [if_pos rfl]; exact h2 _ k
  | false => rw [if_neg Bool.false_ne_true]; exact k
theorem g_orP {a b : Bool} (h1 : ∀ R : Bool → Hp → Prop, R a H → c σ H R) (h2 : ∀ R : Bool → Hp → Prop, R b H → u σ H R) (k : QB (a || b) H) : tOr c u σ H QB := by
  refine h1 _ ?_
  cases a with
  | true => rw [if_pos rfl]; exact k
  | false => rw [if_neg Bool.false_ne_true]; exact h2 _ k
theorem g_cut {Mid : L2.St → Hp → Prop} (h : t1 { D with nx := Mid } σ H) (k : ∀ σ' H', Mid σ' H' → t2 D σ' H') : Evl.tCut t1 t2 D σ H := ⟨Mid, h, k⟩
theorem g_not (h : c σ H fun b H1 => QB (!b) H1) : tNot c σ H QB := h
theorem g_andV (h : ta σ H fun x H1 => ∃ c, x = .bl c ∧ if c = true then tb σ H1 Q else Q (.bl false) H1) : tAndV ta tb σ H Q := h
theorem g_orV (h : ta σ H fun x H1 => ∃ c, x = .bl c ∧ if c = true then Q (.bl true) H1 else tb σ H1 Q) : tOrV ta tb σ H Q := h
theorem g_notV (h : ta σ H fun x H1 => ∃ c, x = .bl c ∧ Q (.bl (!c)) H1) : tNotV ta σ H Q := h
theorem g_if (h : c σ H fun b H1 => if b = true then ta σ H1 Q else tb σ H1 Q) : tIf c ta tb σ H Q := h
theorem g_nil (h : QL [] H) : tNil σ H QL := h
theorem g_cons (h : ta σ H fun x H1 => tr σ H1 fun xs H2 => QL (x :: xs) H2) : tCons ta tr σ H QL := h
theorem g_tup (h : tl σ H fun xs H1 => xs.length ≤ sizeLine ∧ ∀ p, H1 p = none → Q (.ref p) (upd H1 p (.tup xs))) : tTup tl σ H Q := h
theorem g_lst (h : tl σ H fun xs H1 => xs.length ≤ sizeLine ∧ ∀ p, H1 p = none → Q (.ref p) (upd H1 p (.lst xs))) : tLst tl σ H Q := h
theorem g_CB {r : List V → Hp → VK → Prop} (h : tl σ H fun vs H1 => r vs H1 Q) : tCB r tl σ H Q := h
theorem g_Fn {sp : Sp} {E : XK} (h : tl σ H fun vs H1 => sp vs H1 Q E) : tFn sp E tl σ H Q := h
theorem g_ixL (h : SqL K H p xs) (e : atI xs i = some v) (q : Q v H) : rIxL K (.ref p) (.int i) H Q := ⟨p, xs, i, v, rfl, rfl, h, e, q⟩
theorem g_ixT (h : SqT K H p xs) (e : atI xs i = some v) (q : Q v H) : rIxT K (.ref p) (.int i) H Q := ⟨p, xs, i, v, rfl, rfl, h, e, q⟩
theorem g_setL {R : Hp → Prop} (h : H p = some (.lst xs)) (e : ixN xs.length i = some n) (q : R (upd H p (.lst (xs.set n v)))) : rSetL (.ref p) (.int i) v H R := ⟨p, xs, i, n, rfl, rfl, h, e, q⟩
theorem g_app (h : H p = some (.lst xs)) (hz : xs.length < sizeLine) (q : Q .non (upd H p (.lst (xs ++ [v])))) : rAppend (.ref p) [v] H Q := ⟨p, xs, v, rfl, rfl, h, hz, q⟩
theorem g_dg (h : ta σ H fun x H1 => tb σ H1 fun y H2 => ∃ a v, x = .ref a ∧ DGet H2 a y (some v) ∧ Q v H2) : tDGet ta tb σ H Q := h
theorem iteB {A B : Prop} (h1 : b = true → A) (h2 : b = false → B) : if b = true then A else B := by
  cases b with
  | true => rw [if_pos rfl]; exact h1 rfl
  | false => rw [if_neg Bool.false_ne_true]; exact h2 rfl
end
end Bq
end

section
set_option maxRecDepth 100000
set_option maxHeartbeats 1000000
namespace Bq
open PySem PySem.Spec PyProof.Rows L2
theorem pe_bty {X : Cx} {x : Str} {pos : Pos} (n : String) (hg : Gl X x) (hm : X.mg x = none) (hv : bootBuiltins x = some (.type n)) (hn : x ≠ "__name__" := by decide) (hd : (x == ("__debug__" : Str)) = false := by decide) : PE X (.Name x pos) (tC (.ty n)) :=
  pe_bltn (v := .ty n) hg hm hv rfl hn hd
/-! ### a list against [] -/
def rEqNil (K : PySem.W.Frag) : R2 := fun x y H Q => ∃ p q xs, x = .ref p ∧ y = .ref q ∧ SqL K H p xs ∧ SqL K H q [] ∧ Q (.bl xs.isEmpty) H
def rNeNil (K : PySem.W.Frag) : R2 := fun x y H Q => ∃ p q xs, x = .ref p ∧ y = .ref q ∧ SqL K H p xs ∧ SqL K H q [] ∧ Q (.bl (!xs.isEmpty)) H
section
variable {X : Cx}
theorem op_eqNil (hu : X.A.units < cLine) : OpR X (compareOp .Eq) (rEqNil X.K) := by
  intro pins s σ H x y v u Q I rx ry h
  obtain ⟨p, q, xs, rfl, rfl, hp, hq, k⟩ := h
  cases rx
  cases ry
  obtain ⟨its, rv, pl, _⟩ := I.list hp
  obtain ⟨its2, rv2, pl2, _⟩ := I.list hq
  cases rv2
  cases rv with
  | nil => exact PySem.SeqAt.eq_listAt (e := fun _ => true) pl.isList pl2.isList rfl hu (fun j h1 => by simp at h1) ⟨.bl true, H, I, rfl, k⟩
  | cons r t => exact PySem.SeqAt.eq_list_lengthsAt pl.isList pl2.isList (by simp) hu ⟨.bl false, H, I, rfl, k⟩
theorem op_neNil (hu : X.A.units < cLine) : OpR X (compareOp .NotEq) (rNeNil X.K) := by
  intro pins s σ H x y v u Q I rx ry h
  obtain ⟨p, q, xs, rfl, rfl, hp, hq, k⟩ := h
  cases rx
  cases ry
  obtain ⟨its, rv, pl, _⟩ := I.list hp
  obtain ⟨its2, rv2, pl2, _⟩ := I.list hq
  cases rv2
  cases rv with
  | nil => exact PySem.SeqAt.RcNeAt.lists (e := fun _ => true) pl.isList pl2.isList rfl hu (fun j h1 => by simp at h1) X.prog X.w _ _ ⟨.bl false, H, I, rfl, k⟩
  | cons r t => exact PySem.SeqAt.RcNeAt.lists_lengths pl.isList pl2.isList (by simp) hu X.prog X.w _ _ ⟨.bl true, H, I, rfl, k⟩
end
section
variable {K : PySem.W.Frag} {H : Hp} {Q : VK} {p q : Addr} {xs : List V}
theorem g_eqNil (h : SqL K H p xs) (h2 : SqL K H q []) (k : Q (.bl xs.isEmpty) H) : rEqNil K (.ref p) (.ref q) H Q := ⟨p, q, xs, rfl, rfl, h, h2, k⟩
theorem g_neNil (h : SqL K H p xs) (h2 : SqL K H q []) (k : Q (.bl (!xs.isEmpty)) H) : rNeNil K (.ref p) (.ref q) H Q := ⟨p, q, xs, rfl, rfl, h, h2, k⟩
end

/-! ### a word between a test (an expression) and what follows -/
def tMid (t : TT) : TT := fun σ H Q => ∃ R : Bool → Hp → Prop, t σ H R ∧ ∀ b H', R b H' → Q b H'
def tMidE (t : TE) : TE := fun σ H Q => ∃ R : VK, t σ H R ∧ ∀ b H', R b H' → Q b H'
theorem pt_mid {X : Cx} {e : Expr} {t : TT} (h : PT X e t) : PT X e (tMid t) := by
  refine ⟨fun pins s σ H Q I hw => ?_⟩
  obtain ⟨R, h1, h2⟩ := hw
  exact thn (h.run pins s σ H R I h1) fun b s' ⟨H', I', q⟩ => ⟨H', I', h2 b H' q⟩
theorem pe_mid {X : Cx} {e : Expr} {t : TE} (h : PE X e t) : PE X e (tMidE t) := by
  refine ⟨fun pins s σ H Q I hw => ?_⟩
  obtain ⟨R, h1, h2⟩ := hw
  exact thn (h.run pins s σ H R I h1) fun b s' ⟨v, H', I', r, q⟩ => ⟨v, H', I', r, h2 v H' q⟩
theorem g_mid {t : TT} {σ : L2.St} {H : Hp} {Q : Bool → Hp → Prop} (R : Bool → Hp → Prop) (h : t σ H R) (k : ∀ b H', R b H' → Q b H') : tMid t σ H Q := ⟨R, h, k⟩
theorem g_midE {t : TE} {σ : L2.St} {H : Hp} {Q : VK} (R : VK) (h : t σ H R) (k : ∀ b H', R b H' → Q b H') : tMidE t σ H Q := ⟨R, h, k⟩

/-! ### comprehensions without a test, the target a name -/
theorem wipe1 {σ : L2.St} {k : Nat} {x : Option V} : wipe ((wipe σ [k]).set k x) [k] = wipe σ [k] := by
  show ((σ.set k none).set k x).set k none = σ.set k none
  rw [List.set_set, List.set_set]
theorem g_lc {wi : TI} {g : TG} {tt : TT} {te : TE} {vs : List Nat} {σ : L2.St} {H : Hp} {Q : VK} (h : wi σ H fun J H1 => ∀ D, H1 D = none → ∃ W : Nat → Nat → Hp → Prop, (∃ m, W 0 m (upd H1 D (.lst []))) ∧ ∀ i m H, W i m H →
  (J.stop i H ∧ Q (.ref D) H) ∨ (J.go i H ∧ ∃ Nx : Hp → Prop, (∀ H', Nx H' → ∃ m', m' < m ∧ W (i + 1) m' H') ∧ ∀ x H', J.yld i H x H' → g x (wipe σ vs) H' fun σ2 H2 => wipe σ2 vs = wipe σ vs ∧ tt σ2 H2 fun b H3 =>
    if b = true then te σ2 H3 fun y H4 => ∃ acc, H4 D = some (.lst acc) ∧ acc.length < sizeLine ∧ Nx (upd H4 D (.lst (acc ++ [y]))) else Nx H3)) : tLc wi g tt te vs σ H Q := h
theorem g_rng1 {ta : TA} {σ : L2.St} {H : Hp} {R : It → Hp → Prop} (h : ta σ H fun vs H1 => ∃ j : Int, vs = [.int j] ∧ -(2 ^ 62) ≤ j ∧ j < 2 ^ 62 ∧ R (Itr 0 j.toNat) H1) : iRng1 ta σ H R := h
theorem g_ilist {K : PySem.W.Frag} {tl : TE} {σ : L2.St} {H : Hp} {R : It → Hp → Prop} (h : tl σ H fun x H1 => ∃ a, x = .ref a ∧ (∃ xs, SqL K H1 a xs) ∧ R (Itl K a) H1) : iList K tl σ H R := h
theorem g_itup {K : PySem.W.Frag} {tl : TE} {σ : L2.St} {H : Hp} {R : It → Hp → Prop} (h : tl σ H fun x H1 => ∃ a, x = .ref a ∧ (∃ xs, SqT K H1 a xs) ∧ R (Itt K a) H1) : iTup K tl σ H R := h
theorem lcR1 {n k : Nat} {te : TE} {σ : L2.St} {H1 : Hp} {D : Addr} {Qd : Hp → Prop} (Pv : Nat → Hp → Prop) (h0 : Pv 0 (upd H1 D (.lst [])))
    (hs : ∀ (i : Nat) H, i < n → Pv i H → te ((wipe σ [k]).set k (some (.int (i : Nat)))) H fun y H4 => ∃ acc, H4 D = some (.lst acc) ∧ acc.length < sizeLine ∧ Pv (i + 1) (upd H4 D (.lst (acc ++ [y])))) (hd : ∀ H, Pv n H → Qd H) :
    ∃ W : Nat → Nat → Hp → Prop, (∃ m, W 0 m (upd H1 D (.lst []))) ∧ ∀ i m H, W i m H →
      ((Itr 0 n).stop i H ∧ Qd H) ∨ ((Itr 0 n).go i H ∧ ∃ Nx : Hp → Prop, (∀ H', Nx H' → ∃ m', m' < m ∧ W (i + 1) m' H') ∧ ∀ x H', (Itr 0 n).yld i H x H' → gName k x (wipe σ [k]) H' fun σ2 H2 => wipe σ2 [k] = wipe σ [k] ∧ tYes σ2 H2 fun b H3 =>
        if b = true then te σ2 H3 fun y H4 => ∃ acc, H4 D = some (.lst acc) ∧ acc.length < sizeLine ∧ Nx (upd H4 D (.lst (acc ++ [y]))) else Nx H3) :=
  lc_range (lo := 0) (n := n) (g := gName k) (tt := tYes) (vs := [k]) Pv h0 (fun i H hi p => by
    refine ⟨wipe1, ?_⟩
    simp only [tYes, Int.zero_add, ↓reduceIte]
    exact hs i H hi p) hd
theorem lcT1 {K : PySem.W.Frag} {a : Addr} {xs : List V} {k : Nat} {te : TE} {σ : L2.St} {H1 : Hp} {D : Addr} {Qd : Hp → Prop} (Pv : Nat → Hp → Prop) (h0 : Pv 0 (upd H1 D (.lst []))) (hl : ∀ i H, i ≤ xs.length → Pv i H → SqT K H a xs)
    (hs : ∀ (i : Nat) x H, xs[i]? = some x → Pv i H → te ((wipe σ [k]).set k (some x)) H fun y H4 => ∃ acc, H4 D = some (.lst acc) ∧ acc.length < sizeLine ∧ Pv (i + 1) (upd H4 D (.lst (acc ++ [y])))) (hd : ∀ H, Pv xs.length H → Qd H) :
    ∃ W : Nat → Nat → Hp → Prop, (∃ m, W 0 m (upd H1 D (.lst []))) ∧ ∀ i m H, W i m H →
      ((Itt K a).stop i H ∧ Qd H) ∨ ((Itt K a).go i H ∧ ∃ Nx : Hp → Prop, (∀ H', Nx H' → ∃ m', m' < m ∧ W (i + 1) m' H') ∧ ∀ x H', (Itt K a).yld i H x H' → gName k x (wipe σ [k]) H' fun σ2 H2 => wipe σ2 [k] = wipe σ [k] ∧ tYes σ2 H2 fun b H3 =>
        if b = true then te σ2 H3 fun y H4 => ∃ acc, H4 D = some (.lst acc) ∧ acc.length < sizeLine ∧ Nx (upd H4 D (.lst (acc ++ [y]))) else Nx H3) :=
  lc_tup (xs := xs) (g := gName k) (tt := tYes) (vs := [k]) Pv h0 hl (fun i x H hi p => by
    refine ⟨wipe1, ?_⟩
    simp only [tYes, ↓reduceIte]
    exact hs i x H hi p) hd
theorem lcL1 {K : PySem.W.Frag} {a : Addr} {xs : List V} {k : Nat} {te : TE} {σ : L2.St} {H1 : Hp} {D : Addr} {Qd : Hp → Prop} (Pv : Nat → Hp → Prop) (h0 : Pv 0 (upd H1 D (.lst []))) (hl : ∀ i H, i ≤ xs.length → Pv i H → SqL K H a xs)
    (hs : ∀ (i : Nat) x H, xs[i]? = some x → Pv i H → te ((wipe σ [k]).set k (some x)) H fun y H4 => ∃ acc, H4 D = some (.lst acc) ∧ acc.length < sizeLine ∧ Pv (i + 1) (upd H4 D (.lst (acc ++ [y])))) (hd : ∀ H, Pv xs.length H → Qd H) :
    ∃ W : Nat → Nat → Hp → Prop, (∃ m, W 0 m (upd H1 D (.lst []))) ∧ ∀ i m H, W i m H →
      ((Itl K a).stop i H ∧ Qd H) ∨ ((Itl K a).go i H ∧ ∃ Nx : Hp → Prop, (∀ H', Nx H' → ∃ m', m' < m ∧ W (i + 1) m' H') ∧ ∀ x H', (Itl K a).yld i H x H' → gName k x (wipe σ [k]) H' fun σ2 H2 => wipe σ2 [k] = wipe σ [k] ∧ tYes σ2 H2 fun b H3 =>
        if b = true then te σ2 H3 fun y H4 => ∃ acc, H4 D = some (.lst acc) ∧ acc.length < sizeLine ∧ Nx (upd H4 D (.lst (acc ++ [y]))) else Nx H3) :=
  lc_list (xs := xs) (g := gName k) (tt := tYes) (vs := [k]) Pv h0 hl (fun i x H hi p => by
    refine ⟨wipe1, ?_⟩
    simp only [tYes, ↓reduceIte]
    exact hs i x H hi p) hd
/-! ### for -/
theorem g_for {wi : TI} {g : TG} {tb : TS} {D : Ends} {σ : L2.St} {H : Hp} (h : wi σ H fun J H1 => ∃ W : Nat → Nat → L2.St → Hp → Prop, (∃ m, W 0 m σ H1) ∧ ∀ i m σ H, W i m σ H →
  (J.stop i H ∧ D.nx σ H) ∨ (J.go i H ∧ ∃ N : L2.St → Hp → Prop, (∀ σ' H', N σ' H' → ∃ m', m' < m ∧ W (i + 1) m' σ' H') ∧ ∀ x H', J.yld i H x H' → g x σ H' fun σ2 H2 => tb { D with nx := N, ct := N, bk := D.nx } σ2 H2)) : tFor wi g tb D σ H := h
theorem for_rng {n k : Nat} {tb : TS} {D : Ends} {σ : L2.St} {H : Hp} (Pv : Nat → L2.St → Hp → Prop) (h0 : Pv 0 σ H)
    (hs : ∀ (i : Nat) σ H, i < n → Pv i σ H → tb { D with nx := Pv (i + 1), ct := Pv (i + 1), bk := D.nx } (σ.set k (some (.int (i : Nat)))) H) (hd : ∀ σ H, Pv n σ H → D.nx σ H) :
    ∃ W : Nat → Nat → L2.St → Hp → Prop, (∃ m, W 0 m σ H) ∧ ∀ i m σ H, W i m σ H →
      ((Itr 0 n).stop i H ∧ D.nx σ H) ∨ ((Itr 0 n).go i H ∧ ∃ N : L2.St → Hp → Prop, (∀ σ' H', N σ' H' → ∃ m', m' < m ∧ W (i + 1) m' σ' H') ∧ ∀ x H', (Itr 0 n).yld i H x H' → gName k x σ H' fun σ2 H2 => tb { D with nx := N, ct := N, bk := D.nx } σ2 H2) :=
  for_range (lo := 0) (n := n) (g := gName k) Pv h0 (fun i σ H hi p => by
    have h := hs i σ H hi p
    rw [← Int.zero_add ((i : Nat) : Int)] at h
    exact h) hd
/-! ### the language: parts and deeds -/
inductive Op where
  | add | take | times | over | rest | less | same
  deriving DecidableEq
def Op.str : Op → Str
  | .add => "add" | .take => "take" | .times => "times" | .over => "over" | .rest => "rest" | .less => "less" | .same => "same"
inductive Pt where
  | num (n : Int)
  | name (i : Nat)
  | bin (op : Op) (a b : Pt)
  | nt (a : Pt)
  | get (a : Pt)
  | call (f : Nat) (ps : List Pt)
inductive Dd where
  | set (i : Nat) (p : Pt)
  | put (c p : Pt)
  | say (p : Pt)
  | ite (p : Pt) (a b : List Dd)
  | whl (p : Pt) (b : List Dd)
  | ret (p : Pt)
  | dop (p : Pt)
mutual
def encP : Pt → T
  | .num n => .tup [.str "num", .int n]
  | .name i => .tup [.str "name", .int i]
  | .bin op a b => .tup [.str op.str, encP a, encP b]
  | .nt a => .tup [.str "not", encP a]
  | .get a => .tup [.str "get", encP a]
  | .call f ps => .tup [.str "call", .int f, .tup (encPs ps)]
def encPs : List Pt → List T
  | [] => []
  | p :: r => encP p :: encPs r
end
mutual
def encDd : Dd → T
  | .set i p => .tup [.str "set", .int i, encP p]
  | .put c p => .tup [.str "put", encP c, encP p]
  | .say p => .tup [.str "say", encP p]
  | .ite p a b => .tup [.str "if", encP p, .tup (encB a), .tup (encB b)]
  | .whl p b => .tup [.str "while", encP p, .tup (encB b)]
  | .ret p => .tup [.str "return", encP p]
  | .dop p => .tup [.str "do", encP p]
def encB : List Dd → List T
  | [] => []
  | d :: r => encDd d :: encB r
end
/-- a fun: how many worths it is handed, how many names it has, its body -/
structure Fu where
  ps : Nat
  nm : Nat
  body : List Dd
def encF (f : Fu) : T := .tup [.int f.ps, .int f.nm, .tup (encB f.body)]
mutual
/-- how many parts -/
def szP : Pt → Nat
  | .num _ => 1
  | .name _ => 1
  | .bin _ a b => 1 + szP a + szP b
  | .nt a => 1 + szP a
  | .get a => 1 + szP a
  | .call _ ps => 1 + szPs ps
def szPs : List Pt → Nat
  | [] => 0
  | p :: r => szP p + szPs r
end
mutual
/-- how many deeds and parts -/
def szD : Dd → Nat
  | .set _ p => 1 + szP p
  | .put c p => 1 + szP c + szP p
  | .say p => 1 + szP p
  | .ite p a b => 1 + szP p + szB a + szB b
  | .whl p b => 1 + szP p + szB b
  | .ret p => 1 + szP p
  | .dop p => 1 + szP p
def szB : List Dd → Nat
  | [] => 0
  | d :: r => szD d + szB r
end
mutual
/-- a part that can be: nm names, funs of so many params -/
def wfP (nm : Nat) (ps : List Nat) : Pt → Prop
  | .num n => -1000000 ≤ n ∧ n ≤ 1000000
  | .name i => i < nm
  | .bin _ a b => wfP nm ps a ∧ wfP nm ps b
  | .nt a => wfP nm ps a
  | .get a => wfP nm ps a
  | .call f qs => ps[f]? = some qs.length ∧ wfPs nm ps qs
def wfPs (nm : Nat) (ps : List Nat) : List Pt → Prop
  | [] => True
  | p :: r => wfP nm ps p ∧ wfPs nm ps r
end
mutual
/-- a deed that can be: at most dp deeds around what is within -/
def wfD (nm : Nat) (ps : List Nat) : Nat → Dd → Prop
  | _, .set i p => i < nm ∧ wfP nm ps p ∧ szP p ≤ 40
  | _, .put c p => wfP nm ps c ∧ wfP nm ps p ∧ szP c + szP p ≤ 40
  | _, .say p => wfP nm ps p ∧ szP p ≤ 40
  | dp, .ite p a b => wfP nm ps p ∧ szP p ≤ 40 ∧ wfBs nm ps dp a ∧ wfBs nm ps dp b
  | dp, .whl p b => wfP nm ps p ∧ szP p ≤ 40 ∧ wfBs nm ps dp b
  | _, .ret p => wfP nm ps p ∧ szP p ≤ 40
  | _, .dop p => wfP nm ps p ∧ szP p ≤ 40
/-- a body within a deed: empty, or one level less left -/
def wfBs (nm : Nat) (ps : List Nat) : Nat → List Dd → Prop
  | _, [] => True
  | 0, _ :: _ => False
  | dp + 1, d :: r => wfD nm ps dp d ∧ wfBs nm ps (dp + 1) r
end
mutual
theorem wfP_mono {n m : Nat} (h : n ≤ m) {ps : List Nat} : ∀ {p : Pt}, wfP n ps p → wfP m ps p
  | .num _, q => q
  | .name i, q => Nat.lt_of_lt_of_le (show i < n from q) h
  | .bin _ a b, q => ⟨wfP_mono h q.1, wfP_mono h q.2⟩
  | .nt a, q => wfP_mono (p := a) h q
  | .get a, q => wfP_mono (p := a) h q
  | .call f qs, q => ⟨q.1, wfPs_mono h q.2⟩
theorem wfPs_mono {n m : Nat} (h : n ≤ m) {ps : List Nat} : ∀ {qs : List Pt}, wfPs n ps qs → wfPs m ps qs
  | [], q => q
  | p :: r, q => ⟨wfP_mono h q.1, wfPs_mono h q.2⟩
end
mutual
/-- how many deeds and parts a thing is told to hold: tuples that begin with a text -/
def thT : T → Nat
  | .int _ => 0
  | .str _ => 0
  | .tup ts => ownT ts + thTs ts
def thTs : List T → Nat
  | [] => 0
  | t :: r => thT t + thTs r
def ownT : List T → Nat
  | .str _ :: _ => 1
  | _ => 0
end
theorem ownT_str {s : Str} {r : List T} : ownT (.str s :: r) = 1 := rfl
mutual
/-- how deep a thing is -/
def dpT : T → Nat
  | .int _ => 0
  | .str _ => 0
  | .tup ts => 1 + dpTs ts
def dpTs : List T → Nat
  | [] => 0
  | t :: r => max (dpT t) (dpTs r)
end
mutual
def dpP : Pt → Nat
  | .num _ => 1
  | .name _ => 1
  | .bin _ a b => 1 + max (dpP a) (dpP b)
  | .nt a => 1 + dpP a
  | .get a => 1 + dpP a
  | .call _ ps => 1 + dpPs ps
def dpPs : List Pt → Nat
  | [] => 0
  | p :: r => max (dpP p) (dpPs r)
end
mutual
theorem dpP_sz : ∀ p : Pt, dpP p ≤ szP p
  | .num _ => Nat.le_refl 1
  | .name _ => Nat.le_refl 1
  | .bin _ a b => by have := dpP_sz a; have := dpP_sz b; simp only [dpP, szP]; omega
  | .nt a => by have := dpP_sz a; simp only [dpP, szP]; omega
  | .get a => by have := dpP_sz a; simp only [dpP, szP]; omega
  | .call _ ps => by have := dpPs_sz ps; simp only [dpP, szP]; omega
theorem dpPs_sz : ∀ ps : List Pt, dpPs ps ≤ szPs ps
  | [] => Nat.le_refl 0
  | p :: r => by have := dpP_sz p; have := dpPs_sz r; simp only [dpPs, szPs]; omega
end
mutual
theorem dpT_P : ∀ p : Pt, dpT (encP p) ≤ 2 * dpP p
  | .num _ => by simp [encP, dpT, dpTs, dpP]
  | .name _ => by simp [encP, dpT, dpTs, dpP]
  | .bin _ a b => by have := dpT_P a; have := dpT_P b; simp only [encP, dpT, dpTs, dpP]; omega
  | .nt a => by have := dpT_P a; simp only [encP, dpT, dpTs, dpP]; omega
  | .get a => by have := dpT_P a; simp only [encP, dpT, dpTs, dpP]; omega
  | .call _ ps => by have := dpT_Ps ps; simp only [encP, dpT, dpTs, dpP]; omega
theorem dpT_Ps : ∀ ps : List Pt, dpTs (encPs ps) ≤ 2 * dpPs ps
  | [] => Nat.le_refl 0
  | p :: r => by have := dpT_P p; have := dpT_Ps r; simp only [encPs, dpTs, dpPs]; omega
end
theorem ownT_Ps : ∀ ps : List Pt, ownT (encPs ps) = 0
  | [] => rfl
  | .num _ :: r => rfl
  | .name _ :: r => rfl
  | .bin _ _ _ :: r => rfl
  | .nt _ :: r => rfl
  | .get _ :: r => rfl
  | .call _ _ :: r => rfl
mutual
theorem thT_P : ∀ p : Pt, thT (encP p) = szP p
  | .num _ => rfl
  | .name _ => rfl
  | .bin _ a b => by have := thT_P a; have := thT_P b; simp only [encP, thT, thTs, szP, ownT_str]; omega
  | .nt a => by have := thT_P a; simp only [encP, thT, thTs, szP, ownT_str]; omega
  | .get a => by have := thT_P a; simp only [encP, thT, thTs, szP, ownT_str]; omega
  | .call _ ps => by have := thT_Ps ps; have := ownT_Ps ps; simp only [encP, thT, thTs, szP, ownT_str]; omega
theorem thT_Ps : ∀ ps : List Pt, thTs (encPs ps) = szPs ps
  | [] => rfl
  | p :: r => by have := thT_P p; have := thT_Ps r; simp only [encPs, thTs, szPs]; omega
end
theorem ownT_B : ∀ b : List Dd, ownT (encB b) = 0
  | [] => rfl
  | .set _ _ :: r => rfl
  | .put _ _ :: r => rfl
  | .say _ :: r => rfl
  | .ite _ _ _ :: r => rfl
  | .whl _ _ :: r => rfl
  | .ret _ :: r => rfl
  | .dop _ :: r => rfl
mutual
theorem thT_D : ∀ d : Dd, thT (encDd d) = szD d
  | .set _ p => by have := thT_P p; simp only [encDd, thT, thTs, szD, ownT_str]; omega
  | .put c p => by have := thT_P c; have := thT_P p; simp only [encDd, thT, thTs, szD, ownT_str]; omega
  | .say p => by have := thT_P p; simp only [encDd, thT, thTs, szD, ownT_str]; omega
  | .ite p a b => by have := thT_P p; have := thT_B a; have := thT_B b; have := ownT_B a; have := ownT_B b; simp only [encDd, thT, thTs, szD, ownT_str]; omega
  | .whl p b => by have := thT_P p; have := thT_B b; have := ownT_B b; simp only [encDd, thT, thTs, szD, ownT_str]; omega
  | .ret p => by have := thT_P p; simp only [encDd, thT, thTs, szD, ownT_str]; omega
  | .dop p => by have := thT_P p; simp only [encDd, thT, thTs, szD, ownT_str]; omega
theorem thT_B : ∀ b : List Dd, thTs (encB b) = szB b
  | [] => rfl
  | d :: r => by have := thT_D d; have := thT_B r; simp only [encB, thTs, szB]; omega
end
mutual
/-- how deep deeds are, of parts of at most 20 -/
theorem dpT_D {nm : Nat} {ps : List Nat} : ∀ {n : Nat} {d : Dd}, wfD nm ps n d → dpT (encDd d) ≤ 2 * n + 81
  | n, .set _ p, h => by have := dpT_P p; have := dpP_sz p; have := h.2.2; simp only [encDd, dpT, dpTs]; omega
  | n, .put c p, h => by have := dpT_P p; have := dpP_sz p; have := dpT_P c; have := dpP_sz c; have := h.2.2; simp only [encDd, dpT, dpTs]; omega
  | n, .say p, h => by have := dpT_P p; have := dpP_sz p; have := h.2; simp only [encDd, dpT, dpTs]; omega
  | n, .ite p a b, h => by have := dpT_P p; have := dpP_sz p; have := h.2.1; have := dpT_B h.2.2.1; have := dpT_B h.2.2.2; simp only [encDd, dpT, dpTs]; omega
  | n, .whl p b, h => by have := dpT_P p; have := dpP_sz p; have := h.2.1; have := dpT_B h.2.2; simp only [encDd, dpT, dpTs]; omega
  | n, .ret p, h => by have := dpT_P p; have := dpP_sz p; have := h.2; simp only [encDd, dpT, dpTs]; omega
  | n, .dop p, h => by have := dpT_P p; have := dpP_sz p; have := h.2; simp only [encDd, dpT, dpTs]; omega
theorem dpT_B {nm : Nat} {ps : List Nat} : ∀ {n : Nat} {b : List Dd}, wfBs nm ps n b → dpTs (encB b) ≤ 2 * n + 79
  | _, [], _ => by simp [encB, dpTs]
  | 0, _ :: _, h => h.elim
  | n + 1, d :: r, h => by have := dpT_D h.1; have := dpT_B h.2; simp only [encB, dpTs]; omega
end
/-! ### tuples made, added -/
section
variable {K : PySem.W.Frag} {H : Hp} {Q : VK} {vs : List V} {ts us : List T} {v1 v2 : V}
theorem catT (r1 : Rep K H v1 (.tup ts)) (r2 : Rep K H v2 (.tup us)) (hl : ts.length + us.length ≤ 1000) (k : ∀ v H', Ch K [] H H' → Rep K H' v (.tup (ts ++ us)) → Q v H') : rCatA K v1 v2 H Q := by
  obtain ⟨a, xs, rfl, hx, rx⟩ := r1.tupI
  obtain ⟨b, ys, rfl, hy, ry⟩ := r2.tupI
  refine ⟨a, b, xs, ys, rfl, rfl, hx, hy, ?_, fun e => ?_, fun e1 e2 => ?_, fun e1 e2 p np => ?_⟩
  · rw [rx.len, ry.len]
    exact Nat.le_trans hl (by decide)
  · refine k _ H Ch.refl ?_
    subst e
    cases rx
    exact r2
  · refine k _ H Ch.refl ?_
    subst e2
    cases ry
    rw [List.append_nil]
    exact r1
  · exact k _ _ (Ch.new np) (.tup (SqT.of upd_same) ((rx.append ry).kt (Ch.new (S := []) np).kt))
/-- t + u, by what they are -/
def rCatR (K : PySem.W.Frag) : R2 := fun x y H Q => ∃ ts us, Rep K H x (.tup ts) ∧ Rep K H y (.tup us) ∧ ts.length + us.length ≤ 1000 ∧ ∀ v H', Ch K [] H H' → Rep K H' v (.tup (ts ++ us)) → Q v H'
theorem op_catR {X : Cx} : OpR X (binaryOp .Add) (rCatR X.K) := by
  intro pins s σ H x y v u Q I rx ry h
  obtain ⟨ts, us, r1, r2, hl, k⟩ := h
  exact op_catA pins s σ H x y v u Q I rx ry (catT r1 r2 hl k)
/-- a tuple, a list displayed: the heap behind it only by what it holds -/
def tTupC (K : PySem.W.Frag) (t : TA) : TE := fun σ H Q => t σ H fun xs H1 => xs.length ≤ sizeLine ∧ ∀ p H2, H1 p = none → H2 p = some (.tup xs) → Ch K [] H1 H2 → Q (.ref p) H2
def tLstC (K : PySem.W.Frag) (t : TA) : TE := fun σ H Q => t σ H fun xs H1 => xs.length ≤ sizeLine ∧ ∀ p H2, H1 p = none → H2 p = some (.lst xs) → Ch K [] H1 H2 → Q (.ref p) H2
theorem pe_tupC {X : Cx} {es : List Expr} {t : TA} {pos : Pos} {x1} (h : PA X es t) : PE X (.Tuple es x1 pos) (tTupC X.K t) := by
  refine ⟨fun pins s σ H Q I hq => ?_⟩
  refine wpAny_Tuple_spliced (thn (h.run pos pins s σ H _ I hq) fun us s1 ⟨xs, H1, I1, r, z, q⟩ => ⟨by rw [← r.length]; exact z, ?_⟩)
  have hf : H1 s1.heap.objs.size = none := I1.hok.fresh (Nat.le_refl _)
  refine ⟨.ref s1.heap.objs.size, upd H1 s1.heap.objs.size (.tup xs), I1.laid (t' := s1.toks) (fun b u e => Heap.get?_push_of_some _ e) (Nat.le_refl _) ?_, rfl, q _ _ hf upd_same (Ch.new hf)⟩
  exact ⟨z, us, r, ⟨_, Heap.get?_push_size _ rfl, rfl, _, rfl⟩⟩
theorem pe_lstC {X : Cx} {es : List Expr} {t : TA} {pos : Pos} (h : PA X es t) : PE X (.List es pos) (tLstC X.K t) := by
  refine ⟨fun pins s σ H Q I hq => ?_⟩
  refine wpAny_List_spliced (thn (h.run pos pins s σ H _ I hq) fun us s1 ⟨xs, H1, I1, r, z, q⟩ => ⟨by rw [← r.length]; exact z, ?_⟩)
  have hf : H1 s1.heap.objs.size = none := I1.hok.fresh (Nat.le_refl _)
  refine ⟨.ref s1.heap.objs.size, upd H1 s1.heap.objs.size (.lst xs), I1.laid (t' := s1.toks) (fun b u e => Heap.get?_push_of_some _ e) (Nat.le_refl _) ?_, rfl, q _ _ hf upd_same (Ch.new hf)⟩
  exact ⟨z, us, 0, r, Heap.get?_push_size _ rfl⟩
theorem g_tupC {tl : TA} {σ : L2.St} (h : tl σ H fun xs H1 => xs.length ≤ sizeLine ∧ ∀ p H2, H1 p = none → H2 p = some (.tup xs) → Ch K [] H1 H2 → Q (.ref p) H2) : tTupC K tl σ H Q := h
theorem g_lstC {tl : TA} {σ : L2.St} (h : tl σ H fun xs H1 => xs.length ≤ sizeLine ∧ ∀ p H2, H1 p = none → H2 p = some (.lst xs) → Ch K [] H1 H2 → Q (.ref p) H2) : tLstC K tl σ H Q := h
theorem g_BM {T : String} {r : V → List V → Hp → VK → Prop} {to : TE} {t : TA} {σ : L2.St} (h : to σ H fun x H1 => tyV K T x H1 ∧ t σ H1 fun xs H2 => r x xs H2 Q) : tBM K T r to t σ H Q := h
theorem g_BM0 {T : String} {r : V → List V → Hp → VK → Prop} {to : TE} {σ : L2.St} (h : to σ H fun x H1 => tyV K T x H1 ∧ r x [] H1 Q) : tBM0 K T r to σ H Q := h
theorem g_tyL {R : Prop} {l : Addr} {xs : List V} (h : SqL K H l xs) (k : R) : tyV K "list" (.ref l) H ∧ R := ⟨.inl ⟨rfl, _, h⟩, k⟩
/-- t[lo:hi] -/
def cutT (ts : List T) (lo hi : Option Int) : List T := (ts.drop (HT.sIx ts.length 0 lo)).take (HT.sIx ts.length ts.length hi - HT.sIx ts.length 0 lo)
def rSlR (K : PySem.W.Frag) : V → Option Int → Option Int → Hp → VK → Prop := fun x lo hi H Q => ∃ ts, Rep K H x (.tup ts) ∧ ∀ v H', Ch K [] H H' → Rep K H' v (.tup (cutT ts lo hi)) → Q v H'
theorem sl_tupR {X : Cx} : SlR X (rSlR X.K) := by
  intro pins s σ H x v vl vu lo hi sl Q I rx hs pl pu h
  obtain ⟨ts, r, k⟩ := h
  obtain ⟨a, xs, rfl, hx, rs⟩ := r.tupI
  have hl := rs.len
  refine sl_tupA pins s σ H _ v vl vu lo hi sl Q I rx hs pl pu ⟨a, xs, rfl, hx, fun hw => k _ H Ch.refl ?_, fun _ p np => k _ _ (Ch.new np) (.tup (SqT.of upd_same) ?_)⟩
  · rw [hl] at hw
    unfold cutT
    rw [hw.1, hw.2, List.drop_zero, Nat.sub_zero, List.take_length]
    exact r
  · unfold cutT cutV
    rw [← hl]
    exact ((rs.drop _).take _).kt (Ch.new (S := []) np).kt
theorem cutT_to (ts : List T) (n : Int) (h : 0 ≤ n) : cutT ts none (some n) = ts.take n.toNat := by
  unfold cutT
  obtain ⟨k, rfl⟩ : ∃ k : Nat, n = k := ⟨n.toNat, by omega⟩
  rw [HT.sIx_none, HT.sIx_nat, List.drop_zero, Nat.sub_zero, Int.toNat_natCast]
  by_cases hk : k ≤ ts.length
  · rw [Nat.min_eq_left hk]
  · rw [Nat.min_eq_right (by omega), List.take_of_length_le (Nat.le_refl _), List.take_of_length_le (by omega)]
theorem cutT_from (ts : List T) (k : Nat) : cutT ts (some (k : Int)) none = ts.drop k := by
  unfold cutT
  rw [HT.sIx_none, HT.sIx_nat]
  by_cases hk : k ≤ ts.length
  · rw [Nat.min_eq_left hk, List.take_of_length_le]
    rw [List.length_drop]
    exact Nat.le_refl _
  · rw [Nat.min_eq_right (by omega), List.drop_eq_nil_of_le (by omega : ts.length ≤ k), List.drop_eq_nil_of_le (Nat.le_refl _), List.take_nil]
theorem g_sl {r : V → Option Int → Option Int → Hp → VK → Prop} {te : TE} {tl th : TO} {σ : L2.St} (h : te σ H fun x H1 => tl σ H1 fun l H2 => th σ H2 fun u H3 => r x l u H3 Q) : L2.tSl r te tl th σ H Q := h
theorem g_noPart {σ : L2.St} {R : Option Int → Hp → Prop} (h : R none H) : tNoPart σ H R := h
theorem g_part {te : TE} {σ : L2.St} {R : Option Int → Hp → Prop} (h : te σ H fun x H1 => ∃ i, x = .int i ∧ R (some i) H1) : tPart te σ H R := h
/-- xs + ys -/
def rCatL (K : PySem.W.Frag) : R2 := fun x y H Q => ∃ l b xs zs, x = .ref l ∧ y = .ref b ∧ H l = some (.lst xs) ∧ H b = some (.lst zs) ∧ xs.length + zs.length ≤ sizeLine ∧ ∀ p H2, H p = none → H2 p = some (.lst (xs ++ zs)) → Ch K [] H H2 → Q (.ref p) H2
theorem op_catL {X : Cx} : OpR X (binaryOp .Add) (rCatL X.K) := by
  intro pins s σ H x y v u Q I rx ry h
  obtain ⟨l, b, xs, zs, rfl, rfl, h1, h2, hl, k⟩ := h
  exact op_cat pins s σ H _ _ v u Q I rx ry ⟨l, b, xs, zs, rfl, rfl, h1, h2, hl, fun p np => k p _ np upd_same (Ch.new np)⟩
/-- xs * k -/
def rRepL (K : PySem.W.Frag) : R2 := fun x y H Q => ∃ l k xs, x = .ref l ∧ y = .int k ∧ H l = some (.lst xs) ∧ -(2 ^ 63) ≤ k ∧ k < 2 ^ 63 ∧ xs.length * k.toNat ≤ sizeLine ∧ ∀ p H2, H p = none → H2 p = some (.lst (List.replicate k.toNat xs).flatten) → Ch K [] H H2 → Q (.ref p) H2
theorem op_repL {X : Cx} : OpR X (binaryOp .Mult) (rRepL X.K) := by
  intro pins s σ H x y v u Q I rx ry h
  obtain ⟨l, k, xs, rfl, rfl, h1, h2, h3, hl, q⟩ := h
  exact op_rep pins s σ H _ _ v u Q I rx ry ⟨l, k, xs, rfl, rfl, h1, h2, h3, hl, fun p np => q p _ np upd_same (Ch.new np)⟩
theorem g_while {c : TT} {tb : TS} {D : Ends} {σ : L2.St} (h : ∃ W : Nat → L2.St → Hp → Prop, (∃ m, W m σ H) ∧ ∀ m σ H, W m σ H →
    c σ H fun b H1 => if b = true then ∃ N : L2.St → Hp → Prop, (∀ σ' H', N σ' H' → ∃ m', m' < m ∧ W m' σ' H') ∧ tb { D with nx := N, ct := N, bk := D.nx } σ H1 else D.nx σ H1) : tWhile c tb D σ H := h
theorem g_pair {tk tv : TE} {r : List (TE × TE)} {σ : L2.St} {QP : List (V × V) → Hp → Prop} (h : tk σ H fun x H1 => tv σ H1 fun y H2 => tPairs r σ H2 fun ps H3 => QP ((x, y) :: ps) H3) : tPairs ((tk, tv) :: r) σ H QP := h
theorem g_pair0 {σ : L2.St} {QP : List (V × V) → Hp → Prop} (h : QP [] H) : tPairs [] σ H QP := h
theorem g_disp {trs : List (TE × TE)} {σ : L2.St} (h : ∀ p, H p = none → tPairs trs σ (upd H p (.dK [])) fun ps H2 => H2 p = some (.dK []) ∧ ∃ kvs : List (Key × V), ps = kvs.map (fun kv => (kV kv.1, kv.2)) ∧ kvs.length ≤ 15 ∧ Q (.ref p) (upd H2 p (.dK (mergeK [] kvs)))) : tDisp trs σ H Q := h
/-- within a comprehension: the frag by name -/
theorem pe_tupCK (K : PySem.W.Frag) {X : Cx} {es : List Expr} {t : TA} {pos : Pos} {x1} (h : PA X es t) (hK : X.K = K := by rfl) : PE X (.Tuple es x1 pos) (tTupC K t) := hK ▸ pe_tupC h
theorem pe_lstCK (K : PySem.W.Frag) {X : Cx} {es : List Expr} {t : TA} {pos : Pos} (h : PA X es t) (hK : X.K = K := by rfl) : PE X (.List es pos) (tLstC K t) := hK ▸ pe_lstC h
theorem ix_listK (K : PySem.W.Frag) {X : Cx} (hK : X.K = K := by rfl) : IxR X (rIxL K) := hK ▸ ix_list
theorem ix_tupK (K : PySem.W.Frag) {X : Cx} (hK : X.K = K := by rfl) : IxR X (rIxT K) := hK ▸ ix_tup
theorem op_catRK (K : PySem.W.Frag) {X : Cx} (hK : X.K = K := by rfl) : OpR X (binaryOp .Add) (rCatR K) := hK ▸ op_catR
theorem op_catLK (K : PySem.W.Frag) {X : Cx} (hK : X.K = K := by rfl) : OpR X (binaryOp .Add) (rCatL K) := hK ▸ op_catL
theorem op_repLK (K : PySem.W.Frag) {X : Cx} (hK : X.K = K := by rfl) : OpR X (binaryOp .Mult) (rRepL K) := hK ▸ op_repL
theorem sl_tupRK (K : PySem.W.Frag) {X : Cx} (hK : X.K = K := by rfl) : SlR X (rSlR K) := hK ▸ sl_tupR
theorem szlt {n : Nat} (h : n ≤ 1000) : n < sizeLine := Nat.lt_of_le_of_lt h (by decide)
theorem szle {n : Nat} (h : n ≤ 1000) : n ≤ sizeLine := Nat.le_trans h (by decide)
end
/-! ### types -/
def tyN : T → String
  | .int _ => "int"
  | .str _ => "str"
  | .tup _ => "tuple"
theorem Rep.ty {K : PySem.W.Frag} {H : Hp} {v : V} {t : T} (r : Rep K H v t) : TyX K H v (.type (tyN t)) := by
  cases r with
  | int i => exact .base (.int i)
  | str s => exact .base (.str s)
  | tup h q =>
    rcases h with (h | ⟨o, h⟩) | ⟨o, its, n, h, c, _⟩
    · exact .base (.tup h)
    · exact .fTuple h
    · exact .kTuple h c
theorem kit_int : ∀ t : T, kitB (tyN t) "int" = some (match t with | .int _ => true | _ => false)
  | .int _ => (show kitB "int" "int" = some true by decide +kernel)
  | .str _ => (show kitB "str" "int" = some false by decide +kernel)
  | .tup _ => (show kitB "tuple" "int" = some false by decide +kernel)
theorem kit_str : ∀ t : T, kitB (tyN t) "str" = some (match t with | .str _ => true | _ => false)
  | .int _ => (show kitB "int" "str" = some false by decide +kernel)
  | .str _ => (show kitB "str" "str" = some true by decide +kernel)
  | .tup _ => (show kitB "tuple" "str" = some false by decide +kernel)
theorem kit_tuple : ∀ t : T, kitB (tyN t) "tuple" = some (match t with | .tup _ => true | _ => false)
  | .int _ => (show kitB "int" "tuple" = some false by decide +kernel)
  | .str _ => (show kitB "str" "tuple" = some false by decide +kernel)
  | .tup _ => (show kitB "tuple" "tuple" = some true by decide +kernel)
theorem kit_bool : ∀ t : T, kitB (tyN t) "bool" = some false
  | .int _ => (show kitB "int" "bool" = some false by decide +kernel)
  | .str _ => (show kitB "str" "bool" = some false by decide +kernel)
  | .tup _ => (show kitB "tuple" "bool" = some false by decide +kernel)
theorem g_isi {K : PySem.W.Frag} {H : Hp} {Q : VK} {x : V} {a n : String} {b : Bool} (ty : TyX K H x (.type a)) (k : kitB a n = some b) (q : Q (.bl b) H) : rIsi K [x, .ty n] H Q :=
  ⟨x, .ty n, .type a, .type n, b, rfl, .ty n, ty, kit_ty k, q⟩
/-! ### what any heap knows: no list, no tuple is longer than the line -/
def Lens (K : PySem.W.Frag) (H : Hp) : Prop := (∀ a xs, SqT K H a xs → xs.length ≤ sizeLine) ∧ ∀ a xs, SqL K H a xs → xs.length ≤ sizeLine
def tLens (K : PySem.W.Frag) (t : TE) : TE := fun σ H Q => t σ H fun v H' => Lens K H' → Q v H'
theorem pe_lens {X : Cx} {e : Expr} {t : TE} (h : PE X e t) : PE X e (tLens X.K t) := by
  refine ⟨fun pins s σ H Q I hw => ?_⟩
  exact thn (h.run pins s σ H _ I hw) fun b s' ⟨v, H', I', r, q⟩ => ⟨v, H', I', r, q ⟨fun a xs hx => let ⟨_, _, _, z⟩ := I'.tuple hx; z, fun a xs hx => let ⟨_, _, _, z⟩ := I'.list hx; z⟩⟩
theorem g_lens {K : PySem.W.Frag} {t : TE} {σ : L2.St} {H : Hp} {Q : VK} (h : t σ H fun v H' => Lens K H' → Q v H') : tLens K t σ H Q := h
theorem encPs_app : ∀ (a b : List Pt), encPs (a ++ b) = encPs a ++ encPs b
  | [], b => rfl
  | p :: r, b => congrArg (encP p :: ·) (encPs_app r b)
theorem dpPs_app : ∀ (a b : List Pt), dpPs (a ++ b) = max (dpPs a) (dpPs b)
  | [], b => by simp [dpPs]
  | p :: r, b => by have := dpPs_app r b; simp only [List.cons_append, dpPs]; omega
theorem wfPs_app {n : Nat} {ps : List Nat} : ∀ {a b : List Pt}, wfPs n ps a → wfPs n ps b → wfPs n ps (a ++ b)
  | [], b, _, h => h
  | p :: r, b, h, k => ⟨h.1, wfPs_app h.2 k⟩
theorem at_of' {α : Type} {xs : List α} {n : Int} {j : Nat} (hj : j < xs.length) (e : n = (j : Int)) : atI xs n = some xs[j] := by
  rw [e]
  exact atI_nat (List.getElem?_eq_getElem hj)
theorem at_all {α : Type} {P : α → Prop} {xs : List α} {n : Int} (h0 : 0 ≤ n) (h1 : n < xs.length) (h : ∀ v ∈ xs, P v) : ∃ v, atI xs n = some v ∧ P v := by
  have hj : n.toNat < xs.length := by omega
  exact ⟨xs[n.toNat], at_of' hj (by omega), h _ (List.getElem_mem hj)⟩
mutual
theorem wfD_mono {nm : Nat} {ps : List Nat} : ∀ {n m : Nat} {d : Dd}, n ≤ m → wfD nm ps n d → wfD nm ps m d
  | _, _, .set _ _, _, h => h
  | _, _, .put _ _, _, h => h
  | _, _, .say _, _, h => h
  | _, _, .ite _ _ _, l, h => ⟨h.1, h.2.1, wfBs_mono l h.2.2.1, wfBs_mono l h.2.2.2⟩
  | _, _, .whl _ _, l, h => ⟨h.1, h.2.1, wfBs_mono l h.2.2⟩
  | _, _, .ret _, _, h => h
  | _, _, .dop _, _, h => h
theorem wfBs_mono {nm : Nat} {ps : List Nat} : ∀ {n m : Nat} {b : List Dd}, n ≤ m → wfBs nm ps n b → wfBs nm ps m b
  | _, _, [], _, _ => by unfold wfBs; trivial
  | 0, _, _ :: _, _, h => h.elim
  | n + 1, 0, _ :: _, l, _ => by omega
  | n + 1, m + 1, d :: r, l, h => ⟨wfD_mono (by omega) h.1, wfBs_mono l h.2⟩
end
end Bq
end

section
set_option maxRecDepth 100000
set_option maxHeartbeats 1000000
namespace Bq
open PySem PySem.Spec PyProof.Rows L2
/-- d.update(e) -/
def rDupd : V → List V → Hp → VK → Prop := fun x xs H Q => ∃ a b kvs more, x = .ref a ∧ xs = [.ref b] ∧ a ≠ b ∧ H a = some (.dK kvs) ∧ H b = some (.dK more) ∧ kvs.length + more.length ≤ sizeLine ∧ Q .non (upd H a (.dK (mergeK kvs more)))
theorem mt_dupd {X : Cx} : MtR X "dict.update" rDupd := by
  intro pins s σ H x xs v us Q I rx rxs h
  obtain ⟨a, b, kvs, more, rfl, rfl, hne, ea, eb, hz, q⟩ := h
  obtain rfl : v = Value.ref a := rx
  obtain ⟨u, rfl, ru⟩ := Vals.one rxs
  obtain rfl : u = Value.ref b := ru
  obtain ⟨z, hd, vs, rel, dd⟩ := dk_of I.hok ea
  obtain ⟨z2, hd2, ws, rel2, dd2⟩ := dk_of I.hok eb
  refine call_meetsIn PySem.F.slot_dict_update dd.typeIs PySem.F.entry_dict_update (PySem.F.args_dict_update_2 _ _) (meets_dict_update (mixKind X.prog X.w) a b hne hd2) ⟨vs, ws, dd, dd2, by rw [← rel.length, ← rel2.length]; exact hz, fun h' dd' _ hs => ?_⟩
  have he : ∃ q, h'.get? a = some q := let ⟨q, _, _, hq, _⟩ := dd'; ⟨q, hq⟩
  have hl : (mergeK kvs more).length ≤ sizeLine := Nat.le_trans (length_mergeK more kvs) hz
  exact ⟨.non, _, d_write (t' := s.toks) I (by rw [ea]; exact True.intro) hs he (dk_new hl hd (rel2.merge rel) dd'), rfl, q⟩
/-- xs[i], a list or a tuple -/
def rIxE (K : PySem.W.Frag) : R2 := fun x y H Q => rIxL K x y H Q ∨ rIxT K x y H Q
theorem ix_seq {X : Cx} : IxR X (rIxE X.K) := by
  intro value slice pins s σ H x y v u Q I rx ry h hs
  rcases h with h | h
  · exact ix_list value slice pins s σ H x y v u Q I rx ry h hs
  · exact ix_tup value slice pins s σ H x y v u Q I rx ry h hs
theorem g_inT {K : PySem.W.Frag} {H : Hp} {p : Addr} {xs : List V} {x : V} {Q : VK} (h : SqT K H p xs) (fx : flatV x = true) (fs : xs.all flatV = true) (q : Q (.bl (inV x xs)) H) : rIn K false x (.ref p) H Q :=
  ⟨p, xs, rfl, .inr h, fx, fs, q⟩
theorem g_isN {H : Hp} {x : V} {Q : VK} (q : Q (.bl (decide (x = .non))) H) : (fun (x y : V) (H : Hp) (Q : VK) => y = .non ∧ Q (.bl (decide (x = .non))) H) x .non H Q := ⟨rfl, q⟩
theorem tkT {A B : Prop} {b : Bool} (e : b = true) (h : A) : if b = true then A else B := by rw [if_pos e]; exact h
theorem tkF {A B : Prop} {b : Bool} (e : b = false) (h : B) : if b = true then A else B := by rw [e, if_neg Bool.false_ne_true]; exact h
theorem g_dget2 {td ty tx : TE} {σ : L2.St} {H : Hp} {Q : VK} (h : td σ H fun x H1 => ∃ a, x = .ref a ∧ IsD H1 a ∧ ty σ H1 fun y H2 => tx σ H2 fun z H3 => ∃ o, DGet H3 a y o ∧ Q (o.getD z) H3) : tDGet2 td ty tx σ H Q := h
end Bq
end

section
set_option maxRecDepth 100000
set_option maxHeartbeats 1000000
namespace Bq
open PySem PySem.Spec PyProof.Rows L2
/-! ### match over tuples that begin with a text -/
def capB : List (Option Str) → List Value → List (Str × Value)
  | some x :: r, v :: vs => (x, v) :: capB r vs
  | none :: r, _ :: vs => capB r vs
  | _, _ => []
def capS : List (Option Nat) → List V → L2.St → L2.St
  | some i :: r, v :: vs, σ => capS r vs (σ.set i (some v))
  | none :: r, _ :: vs, σ => capS r vs σ
  | _, _, σ => σ
def capN : List Pattern → Option (List (Option Str))
  | [] => some []
  | .MatchAs none n _ :: r => (capN r).map (n :: ·)
  | _ => none
theorem each_cap {M : Model} {A : Around} {E : Value → Shared → Prop} {env : Env} {s : Shared} : ∀ {ps : List Pattern} {nms : List (Option Str)} {vs : List Value} {Q : Option (List (Str × Value)) → Shared → Prop}, capN ps = some nms → vs.length = ps.length → Q (some (capB nms vs)) s →
    wpAny M A (matchEach ps env vs) Q E s
  | [], nms, vs, Q, h, hl, q => by
    cases h
    refine wpAny_matchEach_nil ?_
    cases vs with
    | nil => exact q
    | cons v r => cases hl
  | p :: r, nms, vs, Q, h, hl, q => by
    cases vs with
    | nil => cases hl
    | cons v us =>
      cases p with
      | MatchAs pp n pos =>
        cases pp with
        | some x => cases h
        | none =>
          cases e : capN r with
          | none =>
            simp only [capN, e] at h
            cases h
          | some ns =>
            simp only [capN, e, Option.map_some, Option.some.injEq] at h
            subst h
            refine wpAny_matchEach_cons (wpAny_matchPattern_Capture ?_)
            refine each_cap e (Nat.succ.inj hl) ?_
            cases n with
            | none => exact q
            | some x => exact q
      | _ => cases h
/-- the names caught stand in their slots -/
inductive CapOk (X : Cx) : List (Option Str) → List (Option Nat) → Prop where
  | nil : CapOk X [] []
  | skip {n sl} (h : CapOk X n sl) : CapOk X (none :: n) (none :: sl)
  | cap {x i n sl} (hi : X.N[i]? = some x) (hx : Loc X.env.scope x) (hf : X.fn x = true ∨ X.env.scope.names.lookup x = some .local) (h : CapOk X n sl) : CapOk X (some x :: n) (some i :: sl)
theorem bind_cap {X : Cx} (hN : X.N.Nodup) {pins : List (Addr × Obj)} {H : Hp} {n : List (Option Str)} {sl : List (Option Nat)} (c : CapOk X n sl) : ∀ {vs : List V} {us : List Value} {σ : L2.St} {s : Shared}, Vals vs us → Inv X pins σ H s →
    wpAny (model X.prog X.w) X.A (assignInOrder ((capB n us).map fun p => bindName X.env p.1) ((capB n us).map (·.2))) (fun _ s' => Inv X pins (capS sl vs σ) H s') X.xe s := by
  induction c with
  | nil =>
    intro vs us σ s r I
    have e : capB [] us = [] := by cases us <;> rfl
    rw [e]
    have e2 : capS [] vs σ = σ := by cases vs <;> rfl
    rw [e2]
    exact assignInOrder_nil I
  | skip h ih =>
    intro vs us σ s r I
    cases r with
    | nil => exact assignInOrder_nil I
    | cons r0 r => exact ih r I
  | cap hi hx hf h ih =>
    intro vs us σ s r I
    cases r with
    | nil => exact assignInOrder_nil I
    | cons r0 r => exact assignInOrder_cons (wpAny_bindName (store_ok I hN hi hx r0 (fun s' I' => ih r I') hf))
structure PCs (X : Cx) (cases : List MatchCase) (t : V → TS) : Prop where
  run : ∀ (first : Bool) (pins : List (Addr × Obj)) (s : Shared) (σ : L2.St) (H : Hp) (D : Ends) (v : V) (u : Value), Inv X pins σ H s → RelV v u → t v D σ H → wpAny (model X.prog X.w) X.A (matchCases cases X.env u first) (SP X pins D) X.xe s
def tMatch (te : TE) (t : V → TS) : TS := fun D σ H => te σ H fun v H1 => t v D σ H1
theorem ps_match {X : Cx} {e : Expr} {cs : List MatchCase} {pos : Pos} {te : TE} {t : V → TS} (he : PE X e te) (hc : PCs X cs t) : PS X (.Match e cs pos) (tMatch te t) := by
  refine ⟨fun pins s σ H D I h => ?_⟩
  exact wpAny_Match (thn (he.run pins s σ H _ I h) fun u s1 ⟨v, H1, I1, r, q⟩ => hc.run true pins s1 σ H1 D v u I1 r q)
theorem pcs_nil {X : Cx} : PCs X [] (fun _ => tNext) := ⟨fun _ _ s σ H D _ _ I _ q => wpAny_matchCases_nil ⟨σ, H, I, q⟩⟩
theorem pcs_wild {X : Cx} {body : List Stmt} {tb : TS} {p : Pos} (hb : PSs X body tb) : PCs X [⟨.MatchAs none none p, none, body⟩] (fun _ => tb) := ⟨fun _ pins s σ H D _ _ I _ q =>
  wpAny_matchCases_cons (wpAny_matchPattern_Capture (assignInOrder_nil (hb.run pins s σ H D I q)))⟩
/-- the next case: a tuple of n whose first is the text w; the rest as the slots say -/
def tCase (K : PySem.W.Frag) (w : Str) (n : Nat) (sl : List (Option Nat)) (tb : TS) (tr : V → TS) : V → TS := fun v D σ H => ∃ a z xs, v = .ref a ∧ SqT K H a (.str z :: xs) ∧ if decide (xs.length = n ∧ z = w) = true then tb D (capS sl xs σ) H else tr v D σ H
theorem pcs_case {X : Cx} {w : Str} {k : Nat} {p0 p1 p2 : Pos} {ps : List Pattern} {nms : List (Option Str)} {sl : List (Option Nat)} {body : List Stmt} {rest : List MatchCase} {tb : TS} {tr : V → TS} {n : Nat} (hcalm : X.calm = true) (hN : X.N.Nodup) (hcap : capN ps = some nms) (hsl : CapOk X nms sl)
    (hb : PSs X body tb) (hr : PCs X rest tr) (hlen : ps.length = n := by rfl) (hstar : (Pattern.MatchValue (.Constant (.str w) k p0) p1 :: ps).findIdx? (·.isStar) = none := by rfl) :
    PCs X (⟨.MatchSequence (.MatchValue (.Constant (.str w) k p0) p1 :: ps) p2, none, body⟩ :: rest) (tCase X.K w n sl tb tr) := by
  refine ⟨fun first pins s σ H D v u I r h => ?_⟩
  obtain ⟨a, z, xs, rfl, hS, q⟩ := h
  cases r
  obtain ⟨its, rv, ht, hz⟩ := I.tuple hS
  have hfit : ((its.toArray.size : Nat) : Int) < 2 ^ 63 := by
    have h1 := rv.length
    rw [sizeLine_eq] at hz
    simp only [List.size_toArray]
    omega
  have hits : its.toArray.size = xs.length + 1 := by
    have h1 := rv.length
    simp only [List.size_toArray, ← h1, List.length_cons]
  have hwild : ((Pattern.MatchValue (.Constant (.str w) k p0) p1 :: ps).all fun p => p.isWildcard || (p.isStar && p.names.isEmpty)) = false := by
    simp [List.all_cons, Pattern.isWildcard, Pattern.isStar]
  refine wpAny_matchCases_cons ?_
  by_cases hl : xs.length = n
  · refine matchSeq_tuple_hit ht hfit (by rw [hits, List.length_cons, hlen, hl]) ?_ hstar hwild
    have e : (Pattern.MatchValue (.Constant (.str w) k p0) p1 :: ps).length = its.toArray.size := by rw [hits, List.length_cons, hlen, hl]
    rw [e]
    have I0 : Inv X pins σ H { s with toks := s.toks + 1 + 1 } := (I.tok _).tok _
    refine unpackItems_tuple (I.ok.hd hcalm) ht fun h' hx => ?_
    have I1 : Inv X pins σ H { s with heap := h', toks := s.toks + 1 + 1 } := I0.kept (t' := s.toks + 1 + 1) fun b o e => hx b o (Nat.ne_of_lt (Heap.lt_size e)) e
    cases rv with
    | @cons _ u0 _ us r0 rr =>
      obtain ⟨t0, rfl⟩ := r0
      show wpAny _ _ (matchEach (Pattern.MatchValue (.Constant (.str w) k p0) p1 :: ps) X.env (Value.str z t0 :: us)) _ _ _
      refine wpAny_matchEach_cons (wpAny_matchPattern_Value (Calls.Constant_str ?_))
      have I2 := I1.tok (s.toks + 1 + 1 + 1)
      refine wpAny_mono (op_eq pins _ σ H (.str z) (.str w) _ _ (fun v H' => v = .bl (decide (V.str z = V.str w)) ∧ H' = H) I2 ⟨_, rfl⟩ ⟨_, rfl⟩ ⟨rfl, rfl, rfl⟩) (fun c s2 hc => ?_) fun _ _ z => z
      obtain ⟨_, H3, I3, rb, rfl, e3⟩ := hc
      subst e3
      cases rb
      refine wpAny_truthy_bool ?_
      have hus : us.length = ps.length := by rw [hlen, ← hl, rr.length]
      by_cases hw : z = w
      · subst hw
        rw [if_pos (by simp)]
        refine each_cap hcap hus ?_
        simp only [List.nil_append]
        rw [if_pos (by simp [hl])] at q
        exact wpAny_mono (bind_cap hN hsl rr I3) (fun _ s4 I4 => hb.run pins s4 _ _ D I4 q) fun _ _ z => z
      · rw [if_neg (by simpa using hw)]
        rw [if_neg (by simp [hw])] at q
        exact hr.run false pins s2 σ _ D (.ref a) _ I3 rfl q
  · refine matchSeq_tuple_miss ht hfit (by rw [hits, List.length_cons, hlen]; omega) ?_ hstar hwild
    rw [if_neg (by simp [hl])] at q
    exact hr.run false pins _ σ H D (.ref a) _ ((I.tok _).tok _) rfl q
end Bq
end

section
set_option maxRecDepth 100000
set_option maxHeartbeats 1000000
namespace Bq
open PySem PySem.Spec PyProof.Rows L2
/-! ### del xs[a:] -/
theorem cut_eq (a : Nat) : ∀ (its : List Value) (k n : Nat), n = k + its.length → (its.zipIdx k).filterMap (fun (x, i) => if (if (1 : Int) > 0 then ((decide ((a : Int) ≤ (i : Nat)) && decide (((i : Nat) : Int) < (n : Nat))) && ((((i : Nat) : Int) - (a : Int)) % 1 == 0)) else (decide (((n : Nat) : Int) < (i : Nat)) && decide (((i : Nat) : Int) ≤ (a : Int)) && (((a : Int) - ((i : Nat) : Int)) % (-1) == 0))) = true then none else some x) = its.take (a - k)
  | [], k, n, _ => by simp
  | x :: r, k, n, hn => by
    have ih := cut_eq a r (k + 1) n (by rw [hn, List.length_cons]; omega)
    rw [List.zipIdx_cons, List.filterMap_cons, ih]
    have h1 : ((((k : Nat) : Int) - (a : Int)) % 1 == 0) = true := by rw [Int.emod_one]; rfl
    have h2 : decide (((k : Nat) : Int) < (n : Nat)) = true := decide_eq_true (by rw [hn, List.length_cons]; omega)
    by_cases h : a ≤ k
    · have h3 : decide ((a : Int) ≤ (k : Nat)) = true := decide_eq_true (by omega)
      simp only [h1, h2, h3, show (1 : Int) > 0 by decide, if_true, Bool.and_self]
      rw [show a - k = 0 by omega, show a - (k + 1) = 0 by omega]
      simp
    · have h3 : decide ((a : Int) ≤ (k : Nat)) = false := decide_eq_false (by omega)
      simp only [h3, show (1 : Int) > 0 by decide, if_true, Bool.false_and, Bool.false_eq_true, if_false]
      rw [show a - k = (a - (k + 1)) + 1 by omega]
      simp
section
variable {prog : Program} {w : World} {A : Around} {E : Value → Shared → Prop} {s : Shared}
theorem bounds_tail {a n : Nat} (ha : a ≤ n) : sliceBounds (some (a : Int)) none none n = ((a : Int), (n : Int), 1) := by
  simp only [sliceBounds, Option.getD_none]
  have h1 : ¬ ((a : Int) < 0) := by omega
  simp only [h1, if_false, show (1 : Int) > 0 by decide, if_true]
  congr 1
  · omega
theorem upd_cut {M : Model} {l : Addr} {items : Array Value} {n a : Nat} {f : Array Value → Array Value} {Q : Unit → Shared → Prop} (hf : f items = (items.toList.take a).toArray) (hsz : items.size ≤ sizeLine)
    (e : s.heap.get? l = some { cls := .type "list", data := .seq items n }) (h : Q () { s with heap := s.heap.update l (Obj.mapSeq f) }) : wpAny M A (updateSeq l f) Q E s :=
  wpAny_updateSeq (hz := hsz) (_hz' := by
    rw [hf, List.size_toArray, List.length_take]
    simp only [Array.length_toList]
    omega) e rfl h
set_option maxRecDepth 100000 in
theorem delItem_cut {l sl : Addr} {items : Array Value} {n : Nat} {vl : Value} {a : Nat} {Q : Unit → Shared → Prop}
    (e : s.heap.get? l = some { cls := .type "list", data := .seq items n }) (hs : s.heap.IsSliceOf sl vl .none .none) (pl : IsPart vl (some (a : Int))) (ha : a ≤ items.size) (hsz : items.size ≤ sizeLine)
    (h : ∀ f : Array Value → Array Value, f items = (items.toList.take a).toArray → Q () { s with heap := s.heap.update l (Obj.mapSeq f) }) :
    wpAny (model prog w) A (delItem (.ref l) (.ref sl)) Q E s := by
  have hl : s.heap.IsList l items := PySem.IsL.isList e
  obtain ⟨os, hos, hcs, hds⟩ := id hs
  have hTs : s.TypeIs (.ref sl) "slice" := ⟨os, hos, hcs⟩
  have hstep : ¬ ((rawPart none == rawInt 0) = true) := Bool.false_ne_true
  unfold delItem
  try with_reducible refine wpAny_holding ?_
  first | refine wpAny_bind (wpAny_pure ?_) | skip
  refine wpAny_bind (wpAny_sequenceKey hl.typeIs (by decide) ?_)
  refine wpAny_bind (wpAny_callSpecial?_slot (name := Str.ofString "__delitem__") hl.typeIs F.slot_list_delitem
    (wpAny_call_entry F.slot_list_delitem hl.typeIs F.entry_list_delitem ?_ (F.args_list_delitem_2 _ _)))
  show wpAny _ _ (Builtin.List.listSubscript? (.ref sl) >>= _) _ _ s
  refine wpAny_bind ?_
  unfold Builtin.List.listSubscript?
  refine wpAny_bind (wpAny_specialOf hTs slice_no_index ?_)
  simp only [Option.isNone_none, if_true]
  refine wpAny_pure ?_
  show wpAny _ _ (typeOf (.ref sl) >>= _) _ _ s
  refine wpAny_bind (wpAny_typeOf hTs ?_)
  first
    | rw [if_neg (by decide)]
    | refine PySem.W.KFB.if_not (by decide) ?_
  rw [listSliceParts_eq]
  refine wpAny_bind (wpAny_bind (wpAny_field hos hds (x := .none) rfl (wpAny_bind (wpAny_listPart .none ?_))))
  rw [if_neg hstep]
  refine wpAny_bind (wpAny_field hos hds (x := vl) rfl (wpAny_bind (wpAny_listPart pl ?_)))
  refine wpAny_bind (wpAny_field hos hds (x := .none) rfl (wpAny_bind (wpAny_listPart .none (wpAny_pure ?_))))
  unfold Builtin.List.listItems
  refine wpAny_bind (wpAny_bind (wpAny_seqItems e rfl (wpAny_pure ?_)))
  refine wpAny_bind (wpAny_of_eq ((sliceIndices_raw (some (a : Int)) none none items.size (by simp)).trans (congrArg (pure : Int × Int × Int → Sem (Int × Int × Int)) (bounds_tail ha))) ?_)
  refine wpAny_bind (wpAny_rule ?_)
  refine wpAny_bind (m := updateSeq l _) ?_
  refine upd_cut (a := a) ?hf hsz e ?_
  case hf =>
    show (List.filterMap _ items.toList.zipIdx).toArray = _
    exact congrArg List.toArray (cut_eq a items.toList 0 items.size (by simp))
  refine wpAny_bind (wpAny_letGo ?_)
  first
    | refine wpAny_bind (wpAny_pure (wpAny_pure ⟨.none, rfl, wpAny_pure (h _ ?_)⟩))
    | refine wpAny_pure ⟨.none, rfl, wpAny_pure (h _ ?_)⟩
  show (List.filterMap _ items.toList.zipIdx).toArray = _
  exact congrArg List.toArray (cut_eq a items.toList 0 items.size (by simp))
/-- del xs[a:] -/
def tDelCut (to : TE) (tl : TO) : TS := fun D σ H => to σ H fun x H1 => tl σ H1 fun o H2 => ∃ (l : Addr) (xs : List V) (a : Nat), x = .ref l ∧ o = some (a : Int) ∧ H2 l = some (.lst xs) ∧ a ≤ xs.length ∧ D.nx σ (upd H2 l (.lst (xs.take a)))
theorem ps_delCut {X : Cx} {o : Expr} {lo : Option Expr} {to : TE} {tl : TO} {pos tpos p2 : Pos} (ho : PE X o to) (hl : PO X lo tl) : PS X (.Delete [.Subscript o (.Slice lo none none p2) tpos] pos) (tDelCut to tl) := by
  refine ⟨fun pins s σ H D I h => ?_⟩
  refine wpAny_Delete (wpAny_deleteEach_cons (wpAny_delete_Subscript (thn (ho.run pins s σ H _ I h) fun u s1 ⟨x, H1, I1, rx, q1⟩ => ?_)))
  refine wpAny_Slice (thn (hl.run pins s1 σ H1 _ I1 q1) fun vl s2 ⟨o, H2, I2, pl, q2⟩ => ?_)
  rw [evalPart_none]
  refine wpAny_pure (wpAny_pure ?_)
  obtain ⟨l, xs, a, rfl, rfl, hH, ha, q3⟩ := q2
  cases (show u = Value.ref l from rx)
  have I4 : Inv X pins σ H2 { s2 with heap := s2.heap.push { cls := .type "slice", data := .fields #[vl, .none, .none] } } := I2.kept (t' := s2.toks) fun b ob q => Heap.get?_push_of_some _ q
  obtain ⟨z, its, n, r, hl2, e⟩ := I4.lstM hH
  refine delItem_cut e (Heap.IsSliceOf.new ..) pl (by rw [List.size_toArray, ← hl2]; exact ha) (by rw [List.size_toArray, ← hl2]; exact z) fun f hf => wpAny_deleteEach_nil ⟨σ, _, I4.lset (its' := its.take a) (t' := s2.toks) hH e ?_ (r.take a) ?_, q3⟩
  · exact hf
  · rw [List.length_take]
    omega
end
end Bq
end

section
set_option maxRecDepth 100000
set_option maxHeartbeats 1000000
namespace Bq
open PySem PySem.Spec PyProof.Rows L2
/-! ### the module's tables -/
/-- a tuple of texts at a -/
def strsAt (K : PySem.W.Frag) (a : Addr) (ss : List Str) : Bool := match K.lookup a with
  | some ⟨.type c, _, .seq its _, _⟩ => decide (c = "tuple") && (decide (its.size ≤ sizeLine) && He.relAll (ss.map V.str) its.toList)
  | _ => false
theorem strsAt_ok {K : PySem.W.Frag} {a : Addr} {ss : List Str} (h : strsAt K a ss = true) (H : Hp) : SqT K H a (ss.map V.str) := by
  unfold strsAt at h
  cases q : K.lookup a with
  | none =>
    rw [q] at h
    cases h
  | some o =>
    obtain ⟨oc, od, dt, osl⟩ := o
    rw [q] at h
    cases oc with
    | type c =>
      cases dt with
      | seq its n =>
        obtain ⟨h1, h2⟩ := He.ba (show (decide (c = "tuple") && (decide (its.size ≤ sizeLine) && He.relAll (ss.map V.str) its.toList)) = true from h)
        obtain ⟨h3, h4⟩ := He.ba h2
        exact .inr ⟨_, its, n, q, congrArg Value.type (of_decide_eq_true h1), rfl, of_decide_eq_true h3, He.relAll_ok h4⟩
      | _ => cases h
    | _ => cases dt <;> cases h
def modTup (K : PySem.W.Frag) (x : Str) (ss : List Str) : Bool := strsAt K (He.ga K x) ss
theorem modTup_ok {K : PySem.W.Frag} {x : Str} {ss : List Str} (h : modTup K x ss = true) (H : Hp) : SqT K H (He.ga K x) (ss.map V.str) := strsAt_ok h H
def tabEnt (K : PySem.W.Frag) (d : Addr) (z : Str) : Option (List Str) → Bool
  | none => He.eqO (PySem.W.nsIn K d z) (some none)
  | some ss => match PySem.W.nsIn K d z with
    | some (some (.ref t)) => strsAt K t ss
    | _ => false
def modTab (K : PySem.W.Frag) (x : Str) (l : List (Str × Option (List Str))) : Bool := l.all fun p => tabEnt K (He.ga K x) p.1 p.2
theorem modTab_no {K : PySem.W.Frag} {x z : Str} {l : List (Str × Option (List Str))} (h : modTab K x l = true) (hz : (z, none) ∈ l) : PySem.W.nsIn K (He.ga K x) z = some none :=
  He.eqO_ok (List.all_eq_true.mp h _ hz)
theorem modTab_yes {K : PySem.W.Frag} {x z : Str} {ss : List Str} {l : List (Str × Option (List Str))} (h : modTab K x l = true) (hz : (z, some ss) ∈ l) : ∃ t, PySem.W.nsIn K (He.ga K x) z = some (some (.ref t)) ∧ ∀ H, SqT K H t (ss.map V.str) := by
  have h1 := List.all_eq_true.mp h _ hz
  simp only [tabEnt] at h1
  split at h1
  · rename_i t e
    exact ⟨t, e, fun H => strsAt_ok h1 H⟩
  · cases h1
/-- d[key], d a table of the module -/
def tKGet (K : PySem.W.Frag) (td ty : TE) : TE := fun σ H Q => td σ H fun x H1 => ty σ H1 fun y H2 => ∃ (d : Addr) (z : Str) (u0 : Value) (v0 : V), x = .ref d ∧ y = .str z ∧ PySem.W.nsIn K d z = some (some u0) ∧ RelV v0 u0 ∧ Q v0 H2
theorem pe_kget {X : Cx} {d : Addr} {o i : Expr} {pos p : Pos} {x : Str} {ty : TE} (hD : ∃ es n, KDict X.K X.w d es n) (hg : Gl X x) (hm : X.mg x = some (.ref d)) (hi : PE X i ty) (hs : NoSl i) (hdb : (x == ("__debug__" : Str)) = false := by decide) : PE X (.Subscript (.Name x p) i pos) (tKGet X.K (tC (.ref d)) ty) := by
  obtain ⟨es, n, D⟩ := hD
  refine ⟨fun pins s σ H Q I h => ?_⟩
  have ho : PE X (.Name x p) (tC (.ref d)) := pe_glob hg hm rfl (hd := hdb)
  refine subD_of PySem.F.slot_dict_getitem.lookup hs (thn (ho.run pins s σ H (fun x' H1 => x' = .ref d ∧ H1 = H) I ⟨rfl, rfl⟩) fun u s1 ⟨x1, H1, I1, rx, ex, eh⟩ => ?_)
  subst ex
  subst eh
  obtain rfl : u = Value.ref d := rx
  refine thn (hi.run pins s1 σ _ _ I1 h) fun iv s2 ⟨y, H2, I2, ry, d', z, u0, v0, ex, ey, e, r, q2⟩ => ?_
  obtain rfl : d = d' := by injection ex
  exact ⟨kd_type D I2, op_item_kd D pins s2 σ H2 (.ref d) y _ _ Q I2 rfl ry ⟨z, u0, v0, rfl, ey, e, r, q2⟩⟩
/-- x in d, d a table of the module -/
theorem op_in_mod {X : Cx} {d : Addr} (hD : ∃ es n, KDict X.K X.w d es n) : OpR X (compareOp .In) (fun x y H Q => ∃ (z : Str) (r : Option Value), x = .str z ∧ y = .ref d ∧ PySem.W.nsIn X.K d z = some r ∧ Q (.bl r.isSome) H) := by
  obtain ⟨es, n, D⟩ := hD
  exact op_in_kd D
theorem pe_iglob {X : Cx} {x : Str} {i : Int} {pos : Pos} (hg : Gl X x) (hm : ∃ t, X.mg x = some (.int i t)) (hdb : (x == ("__debug__" : Str)) = false := by decide) : PE X (.Name x pos) (tC (.int i)) := by
  obtain ⟨t, hm⟩ := hm
  exact pe_glob hg hm ⟨_, rfl⟩ (hd := hdb)
/-! ### own classes: their making, their methods -/
def Ini (P : Program) (w : World) (K : PySem.W.Frag) (mg : Str → Option Value) (base : Heap) (CX : CXT) (k : Nat) (x : Str) (ps : List Str) (sp : Sp) : Prop :=
  ∃ C f fd, FnOk P w K mg base CX k f fd ps sp ∧ Binds K fd ps [] ∧ Mk K C f ∧ mg x = some (.ref C)
def Mth (P : Program) (w : World) (K : PySem.W.Frag) (mg : Str → Option Value) (base : Heap) (CX : CXT) (k : Nat) (C : Addr) (m : Str) (ps : List Str) (sp : Sp) : Prop :=
  ∃ f fd, FnOk P w K mg base CX k f fd ps sp ∧ Binds K fd ps [] ∧ Meth K C m f
end Bq
end

section
set_option maxRecDepth 100000
set_option maxHeartbeats 1000000
namespace PySem
theorem meets_enumerate_newT (l : Addr) (o : Obj) (H : Heap → Prop) (B : Begins (.ref l) o H) :
    Meets (Builtin.«enumerate.__new__» ⟨[.type "enumerate", .ref l], []⟩) (fun _ R s => H s.heap ∧
      R (.ok (.ret (.ref (s.heap.push o).objs.size))) { s with heap := (s.heap.push o).push { cls := .type "enumerate", data := .fields #[.none, .bool false, .ref s.heap.objs.size, rawInt 0, .none, .none] } }) :=
  .of_wp fun prog w A R s h => by
    obtain ⟨hp, g, d, tk, os⟩ := s; obtain ⟨h1, h⟩ := h
    have hsub := sub_enumerate
    have q1 : ∀ {A' : Around} {E : Value → Shared → Prop} {Q : Value → Shared → Prop}, Q (.ref hp.objs.size) ⟨hp.push o, g, d, tk, os⟩ → wpAny (model prog w) A' (pyIter (.ref l)) Q E ⟨hp, g, d, tk, os⟩ :=
      fun q => B.iter prog w _ _ ⟨hp, g, d, tk, os⟩ _ h1 q
    wp_walk using q1
    refine wpAny_stack_any fun st => wpAny_pure ?_
    split
    · rename_i c _ _ _ _ _
      cases (c == Value.type "enumerate")
      · wp_walk using q1
        exact ⟨_, rfl, h⟩
      · wp_walk using q1
        exact ⟨_, rfl, h⟩
    · wp_walk using q1
      exact ⟨_, rfl, h⟩
theorem enum_begins1 {prog : Program} {w : World} {A : Around} {E : Value → Shared → Prop} {s : Shared} {l : Addr} {o : Obj} {H : Heap → Prop} {Q : Value → Shared → Prop} (B : Begins (.ref l) o H) (h1 : H s.heap)
    (h : ∀ h', IsEnum h' (s.heap.objs.size + 1) s.heap.objs.size 0 .none → h'.get? s.heap.objs.size = some o → h'.objs.size = s.heap.objs.size + 2 →
      (∀ b o, s.heap.get? b = some o → h'.get? b = some o) → Q (.ref (s.heap.objs.size + 1)) { s with heap := h' }) :
    wpAny (model prog w) A (call (.type "enumerate") [.ref l]) Q E s := by
  refine callType_new F.called_enumerate (by decide) (F.typeCall_enumerate_1 _) (F.newCall_enumerate_1 _) (fun obj => F.args_object_init_2 obj _) F.entry_enumerate_new
    (meets_enumerate_newT l o H B) ⟨h1, ?_⟩
  have hz : (s.heap.push o).objs.size = s.heap.objs.size + 1 := Heap.size_push ..
  show _ ∧ _
  rw [hz]
  have he : IsEnum ((s.heap.push o).push { cls := .type "enumerate", data := .fields #[.none, .bool false, .ref s.heap.objs.size, rawInt 0, .none, .none] }) (s.heap.objs.size + 1) s.heap.objs.size 0 .none := by
    have := Heap.get?_push_size (s.heap.push o) (o := { cls := .type "enumerate", data := .fields #[.none, .bool false, .ref s.heap.objs.size, rawInt 0, .none, .none] }) rfl
    rw [hz] at this; exact this
  refine ⟨⟨_, he, rfl⟩, h _ he (Heap.get?_push_of_some _ (Heap.get?_push_size _ B.free)) (by rw [Heap.size_push, hz]) fun b o x => Heap.get?_push_of_some _ (Heap.get?_push_of_some _ x)⟩
theorem enumT_end {prog : Program} {w : World} {A : Around} {E : Value → Shared → Prop} {s : Shared} {e it l : Addr} {i : Nat} {items : Array Value} {old : Value} {Q : Option Value → Shared → Prop} (hh : A.handled = none)
    (he : IsEnum s.heap e it i old) (hit : s.heap.IsTupleIter it l i) (hl : s.heap.IsTuple l items) (hx : items[i]? = none)
    (hQ : ∀ h', Heap.ExtBut it s.heap h' → Q none { s with heap := h' }) : wpAny (model prog w) A (pyNext (.ref e)) Q E s := by
  have hT : s.TypeIs (.ref e) "enumerate" := ⟨_, he, rfl⟩
  unfold pyNext
  refine wpAny_bind (wpAny_attempt (wpAny_callSpecial?_slot (name := Str.ofString "__next__") hT F.slot_enumerate_next
    (wpAny_call_entry F.slot_enumerate_next hT F.entry_enumerate_next ?_ (F.args_enumerate_next_1 _))))
  show wpAny _ _ (field (.ref e) 2 >>= _) _ _ _
  refine wpAny_bind (wpAny_field he rfl (x := .ref it) rfl ?_)
  refine wpAny_bind (wpAny_nextOf_tuple_end hh hit hl hx fun h' x he' hx' => ?_)
  obtain ⟨o, ho, hc⟩ := hx'
  refine wpAny_bind (wpAny_isInstance (T := "StopIteration") (b := true) ⟨o, ho, hc⟩ isSubtype_stop ?_)
  exact wpAny_pure (hQ _ he')
end PySem
namespace Bq
open PySem PySem.Spec PyProof.Rows L2
/-! ### enumerate(tuple) -/
def Iet (K : PySem.W.Frag) (a : Addr) : It :=
  ⟨fun i H => ∃ (xs : List V) (x : V), SqT K H a xs ∧ xs[i]? = some x, fun i H v H' => ∃ T x, v = .ref T ∧ H T = none ∧ H' = upd H T (.tup [.int (i : Nat), x]) ∧ ∀ xs, SqT K H a xs → xs[i]? = some x, fun i H => ∃ xs : List V, SqT K H a xs ∧ xs.length ≤ i⟩
theorem turn_enumT {P : Program} {w : World} {K : PySem.W.Frag} {elts : List Expr} {kk : Nat} {tpos : Pos} (a e it : Addr) :
    Turn P w K (.Tuple elts kk tpos) (Iet K a) [e, it] e (fun i h => (∃ old, IsEnum h e it ((i : Nat) : Int) old) ∧ h.IsTupleIter it a i ∧ e ≠ it ∧ a ≠ it ∧ a ≠ e) where
  mem := by simp
  obj := fun i h st b hb => by
    obtain ⟨⟨old, he⟩, ⟨o, ho, hc, hd⟩, _⟩ := st
    have e' : b = e ∨ b = it := by simpa using hb
    rcases e' with z | z
    · rw [z]; exact ⟨_, he, fun v q => nomatch q⟩
    · rw [z]; exact ⟨o, ho, fun v q => by rw [hd] at q; cases q⟩
  keep := fun i h h' st k => let ⟨⟨old, he⟩, hi, hr⟩ := st; ⟨⟨old, k e (by simp) _ he⟩, hi.at fun o q => k it (by simp) o q, hr⟩
  item := by
    intro X hP hw hK hc i pins s σ H E I hf st hg
    subst hP hw hK
    obtain ⟨⟨old, he⟩, hit, hne, hai, hae⟩ := st
    obtain ⟨xs, x, hq, hx⟩ := hg
    obtain ⟨its, rv, p, hz⟩ := I.tuple hq
    obtain ⟨u, hu, ru⟩ := rv.get hx
    have hel : e < s.heap.objs.size := Heap.lt_size he
    have hil : it < s.heap.objs.size := by obtain ⟨_, q, _⟩ := hit; exact Heap.lt_size q
    have pT : s.heap.IsTuple a its.toArray := p
    have hlt : i < its.toArray.size := by
      have := (List.getElem?_eq_some_iff.mp hu).1
      simpa using this
    refine wpAny_pyNext_enum_itemD (Draws.tuple (show X.A.in1.handled = none from I.ok.hd hc) it a hai its.toArray) he ⟨hit, pT⟩ hlt hne (by simp [hne, Ne.symm hae]) fun x' h' tk hP ho hs' hT hsz hk => ?_
    have ex : x' = u := by
      have h1 : its.toArray[i]? = some x' := hP
      rw [show its.toArray[i]? = some u by simpa using hu] at h1
      exact (Option.some.inj h1).symm
    subst ex
    refine ⟨_, rfl, wpAny_letOwnedTupleGo_enum (s := { s with heap := h', toks := tk + 1 }) ho fun h'' he' sb => ?_⟩
    have hT2 : h''.get? s.heap.objs.size = some { cls := .type "tuple", data := .seq #[.int i tk, x'] } := (sb.2 _ (Nat.ne_of_gt hel)).trans hT
    have new : ObjOk X.prog X.w (upd H s.heap.objs.size (.tup [.int (i : Nat), x])) h'' s.heap.objs.size (.tup [.int (i : Nat), x]) :=
      ⟨by show 2 ≤ sizeLine; decide, [.int i tk, x'], .cons ⟨_, rfl⟩ (.cons ru .nil), ⟨_, hT2, rfl, _, rfl⟩⟩
    have kk : ∀ b ob, b ∉ [e, it] → s.heap.get? b = some ob → h''.get? b = some ob := fun b ob hb q => (sb.2 b (fun z => hb (by simp [z]))).trans (hk b ob (fun z => hb (by simp [z])) (fun z => hb (by simp [z])) q)
    have I1 : Inv X pins σ (upd H s.heap.objs.size (.tup [.int (i : Nat), x])) { s with heap := h'', toks := tk + 1 } :=
      I.turnedNew (ch := [e, it]) kk hf (Nat.le_refl _) new
    refine ⟨.ref s.heap.objs.size, _, I1, rfl, ⟨_, x, rfl, I.hok.fresh (Nat.le_refl _), rfl, fun ys hy => by rw [I.tuple_inj hy hq]; exact hx⟩, ⟨⟨x', ?_⟩, hs'.1.at fun o q => (sb.2 it (Ne.symm hne)).trans q, hne, hai, hae⟩, fun b hb => ?_⟩
    · have e1 : ((i + 1 : Nat) : Int) = (i : Int) + 1 := by omega
      rw [e1]; exact he'
    · have hb' : b < s.heap.objs.size := by
        have e' : b = e ∨ b = it := by simpa using hb
        rcases e' with z | z
        · rw [z]; exact hel
        · rw [z]; exact hil
      rw [upd_ne (Nat.ne_of_lt hb')]
      exact (hf b hb).1
  done := by
    intro X hP hw hK hc i pins s σ H E I hf st hg
    subst hP hw hK
    obtain ⟨⟨old, he⟩, hit, hne, hai, hae⟩ := st
    obtain ⟨xs, hq, hx⟩ := hg
    obtain ⟨its, rv, p, hz⟩ := I.tuple hq
    obtain ⟨f0, f1, f2, f3, f4, f5⟩ := hf it (by simp)
    have hl := rv.length
    exact enumT_end (I.ok.hd hc) he hit (show s.heap.IsTuple a its.toArray from p) (by simp; omega) fun h' eb => ⟨rfl, I.turned (t' := s.toks) (fun b o hb q => eb b o hb q) f0 f1 f3 f4 f5⟩
  self := fun A i s Q E st h => let ⟨⟨_, he⟩, _⟩ := st; wpAny_pyIter_enum he h
def iEnumA (K : PySem.W.Frag) (ta : TA) : TI := fun σ H R => ta σ H fun vs H1 => ∃ a xs, vs = [.ref a] ∧ SqT K H1 a xs ∧ R (Iet K a) H1
theorem pi_enumA {X : Cx} {e : Expr} {ta : TA} {p pos tpos : Pos} {elts : List Expr} {kk : Nat} (hg : Gl X "enumerate") (hm : X.mg "enumerate" = none) (ha : PA X [e] ta) (hs : starEach [e] X.env = [(false, eval e X.env)] := by rfl) :
    PI X (.Tuple elts kk tpos) (.Call (.Name "enumerate" p) [e] [] pos) (iEnumA X.K ta) := by
  refine ⟨fun pins s σ H R I h => ?_⟩
  refine Call_ (ld_blt I hg hm boot_enumerate (PyProof.Rows.callWith_type1 (thn (ha.run pos pins s σ H _ I h) fun us s1 ⟨vs, H1, I1, r1, q1⟩ => ?_) hs rfl))
  obtain ⟨a, xs, ex, hq, q⟩ := q1
  subst ex
  cases r1 with
  | cons r rr =>
    cases rr
    cases r
    obtain ⟨its, rv, p', hz⟩ := I1.tuple hq
    have pT : s1.heap.IsTuple a its.toArray := p'
    obtain ⟨oa, hoa, _⟩ := id pT
    have ha' := Heap.lt_size hoa
    refine enum_begins1 (begins_tuple a its.toArray) pT fun h' he hit hsz hk => wpAny_pyIter_enum he ?_
    have I2 : Inv X pins σ H1 { s1 with heap := h' } := I1.kept (t' := s1.toks) hk
    refine ⟨s1.heap.objs.size + 1, [s1.heap.objs.size + 1, s1.heap.objs.size], _, _, H1, rfl, I2, turn_enumT a (s1.heap.objs.size + 1) s1.heap.objs.size, ⟨⟨.none, he⟩, ⟨_, hit, rfl, rfl⟩, Nat.succ_ne_self _, Nat.ne_of_lt ha', Nat.ne_of_lt (Nat.lt_succ_of_lt ha')⟩, fun b hb => ?_, q⟩
    have e' : b = s1.heap.objs.size + 1 ∨ b = s1.heap.objs.size := by simpa using hb
    have hle : s1.heap.objs.size ≤ b := by
      rcases e' with z | z
      · rw [z]; exact Nat.le_add_right _ _
      · rw [z]; exact Nat.le_refl _
    exact I1.fpOk hle (I1.hok.fresh hle)
/-- the turns of enumerate over a tuple that stands -/
theorem for_enumT {K : PySem.W.Frag} {a : Addr} {xs : List V} {g : TG} {tb : TS} {D : Ends} {σ : L2.St} {H : Hp} (Pv : Nat → L2.St → Hp → Prop) (h0 : Pv 0 σ H) (hT : ∀ i σ H, Pv i σ H → SqT K H a xs)
    (hs : ∀ i x σ H T, xs[i]? = some x → Pv i σ H → H T = none → g (.ref T) σ (upd H T (.tup [.int (i : Nat), x])) fun σ2 H2 => tb { D with nx := Pv (i + 1), ct := Pv (i + 1), bk := D.nx } σ2 H2) (hd : ∀ σ H, Pv xs.length σ H → D.nx σ H) :
    ∃ W : Nat → Nat → L2.St → Hp → Prop, (∃ m, W 0 m σ H) ∧ ∀ i m σ H, W i m σ H →
      ((Iet K a).stop i H ∧ D.nx σ H) ∨ ((Iet K a).go i H ∧ ∃ N : L2.St → Hp → Prop, (∀ σ' H', N σ' H' → ∃ m', m' < m ∧ W (i + 1) m' σ' H') ∧ ∀ x H', (Iet K a).yld i H x H' → g x σ H' fun σ2 H2 => tb { D with nx := N, ct := N, bk := D.nx } σ2 H2) := by
  refine ⟨fun i m σ H => m = xs.length - i ∧ i ≤ xs.length ∧ Pv i σ H, ⟨xs.length, by simp, Nat.zero_le _, h0⟩, ?_⟩
  rintro i m σ H ⟨rfl, hi, p⟩
  by_cases hlt : i < xs.length
  · have hx : xs[i]? = some xs[i] := List.getElem?_eq_getElem hlt
    refine .inr ⟨⟨xs, _, hT i σ H p, hx⟩, Pv (i + 1), fun σ' H' p' => ⟨xs.length - (i + 1), by omega, rfl, hlt, p'⟩, fun x H' y => ?_⟩
    obtain ⟨T, z, e, hn, e2, q⟩ := y
    subst e e2
    have := q xs (hT i σ H p)
    rw [hx] at this
    cases this
    exact hs i _ σ H T hx p hn
  · have e : i = xs.length := by omega
    subst e
    exact .inl ⟨⟨xs, hT _ σ H p, Nat.le_refl _⟩, hd σ H p⟩
end Bq
end

section
set_option maxRecDepth 100000
set_option maxHeartbeats 1000000
namespace Bq
open PySem PySem.Spec PyProof.Rows L2
/-! ### match over tuples with a star at the end -/
theorem unpack_starT {X : Cx} {pins : List (Addr × Obj)} {σ : L2.St} {H : Hp} {s : Shared} {a : Addr} {us vs : List V} {i : Nat} {E : Value → Shared → Prop} {Q : List Value → Shared → Prop} (hc : X.calm = true) (I : Inv X pins σ H s) (hS : SqT X.K H a (us ++ vs)) (hi : us.length = i) (hz : (us ++ vs).length ≤ 16000)
    (h : ∀ D ws s', Inv X pins σ (upd H D (.lst vs)) s' → Inv X pins σ H s' → H D = none → Vals us ws → Q (ws ++ [.ref D]) s') : wpAny (model X.prog X.w) X.A (unpackItems (.ref a) (i + 1) (some i)) Q E s := by
  obtain ⟨its, rv, hl, _⟩ := I.tuple hS
  have hh := I.ok.hd hc
  have hil : its.length = us.length + vs.length := by rw [← rv.length, List.length_append]
  have hsz : its.toArray.size = us.length + vs.length := by simp [hil]
  rw [List.length_append] at hz
  have hlt : a ≠ s.heap.objs.size := by obtain ⟨o, ho, _⟩ := hl; exact Nat.ne_of_lt (Heap.lt_size ho)
  unfold unpackItems
  refine wpAny_bind ?_
  unfold notIterableAtAll
  refine wpAny_bind (wpAny_specialOf hl.typeIs slot_tuple_iter.lookup ?_)
  refine wpAny_pure ?_
  simp only [Bool.false_eq_true, if_false]
  refine wpAny_bind (wpAny_holding (iter_tuple hl ?_))
  refine wpAny_bind (wpAny_holding (draw_tuple hlt i 0 _ _ ⟨_, Heap.get?_push_size _ rfl, rfl, rfl⟩ (hl.push _) (by omega) fun h₁ hit₁ hs₁ => ?_))
  have hl₁ : IsTup h₁ a its.toArray := (hl.push _).extBut hs₁.extBut hlt
  rw [Nat.zero_add] at hit₁
  have hit₁' := hit₁
  obtain ⟨oi, hoi, _⟩ := hit₁'
  have hl₁' := hl₁
  obtain ⟨ol, hol, _⟩ := hl₁'
  rw [List.drop_zero]
  have hfl : (its.toArray.toList.take i).length = i := by rw [List.length_take, Array.length_toList]; omega
  rw [if_neg (show ¬ ((its.toArray.toList.take i).length < i) by rw [hfl]; omega)]
  refine wpAny_bind (wpAny_holding (W.kun_collect (s := { s with heap := h₁ }) (T := "tuple_iterator") (.inr (.inr (.inr rfl))) (Walks.tuple (A := X.A.in1) hh s.heap.objs.size a hlt its.toArray) (fun j u st => st.1.typeIs) (k := i) (by omega) ⟨hit₁, hl₁⟩ (Heap.lt_size hoi) (Heap.lt_size hol) (fun h₂ tk hk => ?_) (by rw [sizeLine_eq]; omega)))
  have e0 : i + 1 - 1 - i = 0 := by omega
  show wpAny _ _ (if (its.toArray.toList.drop i).length < i + 1 - 1 - i then _ else _) _ _ _
  rw [if_neg (by omega)]
  show wpAny _ _ (newList ((its.toArray.toList.drop i).take ((its.toArray.toList.drop i).length - (i + 1 - 1 - i))) >>= fun d => pure (its.toArray.toList.take i ++ [d] ++ (its.toArray.toList.drop i).drop ((its.toArray.toList.drop i).length - (i + 1 - 1 - i)))) _ _ _
  rw [e0, Nat.sub_zero, List.take_length, List.drop_length]
  simp only [List.append_nil]
  have I2 : Inv X pins σ H { s with heap := h₂, toks := tk } := I.kept fun b o e => hk b o (fun z => by rw [z] at e; exact absurd (Heap.lt_size e) (Nat.lt_irrefl _)) (hs₁.extBut b o (fun z => by rw [z] at e; exact absurd (Heap.lt_size e) (Nat.lt_irrefl _)) (Heap.get?_push_of_some _ e))
  have rv1 : Vals us (its.take i) := by
    have := rv.take i
    rwa [← hi, List.take_left, hi] at this
  have rv2 : Vals vs (its.drop i) := by
    have := rv.drop i
    rwa [← hi, List.drop_left, hi] at this
  refine wpAny_bind (wpAny_newList (wpAny_pure ?_) (by simp; rw [sizeLine_eq]; omega))
  have hp := I2.hok.fresh (Nat.le_refl _)
  have I3 : Inv X pins σ (upd H h₂.objs.size (.lst vs)) { s with heap := h₂.push { cls := .type "list", data := .seq (its.drop i).toArray }, toks := tk } :=
    I2.laid (a := h₂.objs.size) (o := .lst vs) (t' := tk) (fun b u e => Heap.get?_push_of_some _ e) (Nat.le_refl _) ⟨by rw [sizeLine_eq]; omega, its.drop i, 0, rv2, Heap.get?_push_size _ rfl⟩
  exact h _ (its.take i) _ I3 (I2.kept (t' := tk) fun b u e => Heap.get?_push_of_some _ e) hp rv1
/-- (x, *y) -/
def tStarB (K : PySem.W.Frag) (i j : Nat) (tb : TS) : V → TS := fun v D σ H => ∃ a z xs, v = .ref a ∧ SqT K H a (z :: xs) ∧ xs.length ≤ 10000 ∧ ∀ b, H b = none → tb D ((σ.set i (some z)).set j (some (.ref b))) (upd H b (.lst xs))
theorem pcs_starB {X : Cx} {x y : Str} {p1 p2 p3 : Pos} {i j : Nat} {body : List Stmt} {rest : List MatchCase} {tb : TS} (hcalm : X.calm = true) (hN : X.N.Nodup) (hx : X.N[i]? = some x) (lx : Loc X.env.scope x) (fx : X.fn x = true ∨ X.env.scope.names.lookup x = some .local)
    (hy : X.N[j]? = some y) (ly : Loc X.env.scope y) (fy : X.fn y = true ∨ X.env.scope.names.lookup y = some .local) (hb : PSs X body tb) :
    PCs X (⟨.MatchSequence [.MatchAs none (some x) p1, .MatchStar (some y) p2] p3, none, body⟩ :: rest) (tStarB X.K i j tb) := by
  refine ⟨fun first pins s σ H D v u I r h => ?_⟩
  obtain ⟨a, z, xs, rfl, hS, hz, q⟩ := h
  cases r
  obtain ⟨its, rv, ht, _⟩ := I.tuple hS
  have hits : its.toArray.size = xs.length + 1 := by
    have h1 := rv.length
    simp only [List.size_toArray, ← h1, List.length_cons]
  refine wpAny_matchCases_cons ?_
  refine W.kun_seqT ht (by omega) (i := 1) rfl rfl rfl (Nat.le_refl _) (by rw [hits]; simp) ?_
  have I0 : Inv X pins σ H { s with toks := s.toks + 1 + 1 } := (I.tok _).tok _
  refine unpack_starT (us := [z]) (vs := xs) hcalm I0 hS rfl (by simp; omega) fun b ws s' I1 _ nb rw1 => ?_
  cases rw1 with
  | cons r0 rr =>
    cases rr
    refine wpAny_matchEach_cons (wpAny_matchPattern_Capture ?_)
    refine W.kun_each (wpAny_matchEach_nil ?_)
    have I2 := bind_cap hN (n := [some x, some y]) (sl := [some i, some j]) (.cap hx lx fx (.cap hy ly fy .nil)) (vs := [z, .ref b]) (.cons r0 (.cons rfl .nil)) I1
    exact wpAny_mono I2 (fun _ s4 I4 => hb.run pins s4 _ _ D I4 (q b nb)) fun _ _ z => z
/-- (w1 | w2, x, *y) -/
def tStarA (K : PySem.W.Frag) (w1 w2 : Str) (i j : Nat) (tb : TS) (tr : V → TS) : V → TS := fun v D σ H => ∃ a z t xs, v = .ref a ∧ SqT K H a (.str z :: t :: xs) ∧ xs.length ≤ 10000 ∧
  if (decide (z = w1) || decide (z = w2)) = true then ∀ b, H b = none → tb D ((σ.set i (some t)).set j (some (.ref b))) (upd H b (.lst xs)) else tr v D σ H
theorem pat_str {X : Cx} {pins : List (Addr × Obj)} {σ : L2.St} {H : Hp} {s : Shared} {z w : Str} {t : Tok} {k : Nat} {p0 p1 : Pos} {Q : Option (List (Str × Value)) → Shared → Prop} (I : Inv X pins σ H s)
    (h : ∀ s', Inv X pins σ H s' → if z = w then Q (some []) s' else Q none s') : wpAny (model X.prog X.w) X.A (matchPattern (.MatchValue (.Constant (.str w) k p0) p1) X.env (.str z t)) Q X.xe s := by
  refine wpAny_matchPattern_Value (Calls.Constant_str ?_)
  have I2 := I.tok (s.toks + 1)
  refine wpAny_mono (op_eq pins _ σ H (.str z) (.str w) _ _ (fun v H' => v = .bl (decide (V.str z = V.str w)) ∧ H' = H) I2 ⟨_, rfl⟩ ⟨_, rfl⟩ ⟨rfl, rfl, rfl⟩) (fun c s2 hc => ?_) fun _ _ z => z
  obtain ⟨_, H3, I3, rb, rfl, e3⟩ := hc
  subst e3
  cases rb
  refine wpAny_truthy_bool ?_
  have := h s2 I3
  by_cases hw : z = w
  · subst hw
    rw [if_pos rfl] at this
    rw [if_pos (by simp)]
    exact this
  · rw [if_neg hw] at this
    rw [if_neg (by simpa using hw)]
    exact this
theorem pcs_starA {X : Cx} {w1 w2 x y : Str} {k1 k2 : Nat} {p1 p2 p3 q1 q2 q3 q4 q5 : Pos} {i j : Nat} {body : List Stmt} {rest : List MatchCase} {tb : TS} {tr : V → TS} (hcalm : X.calm = true) (hN : X.N.Nodup) (hx : X.N[i]? = some x) (lx : Loc X.env.scope x) (fx : X.fn x = true ∨ X.env.scope.names.lookup x = some .local)
    (hy : X.N[j]? = some y) (ly : Loc X.env.scope y) (fy : X.fn y = true ∨ X.env.scope.names.lookup y = some .local) (hb : PSs X body tb) (hr : PCs X rest tr) :
    PCs X (⟨.MatchSequence [.MatchOr [.MatchValue (.Constant (.str w1) k1 q1) q2, .MatchValue (.Constant (.str w2) k2 q3) q4] q5, .MatchAs none (some x) p1, .MatchStar (some y) p2] p3, none, body⟩ :: rest) (tStarA X.K w1 w2 i j tb tr) := by
  refine ⟨fun first pins s σ H D v u I r h => ?_⟩
  obtain ⟨a, z, t, xs, rfl, hS, hz, q⟩ := h
  cases r
  obtain ⟨its, rv, ht, _⟩ := I.tuple hS
  have hits : its.toArray.size = xs.length + 2 := by
    have h1 := rv.length
    simp only [List.size_toArray, ← h1, List.length_cons]
  refine wpAny_matchCases_cons ?_
  refine W.kun_seqT ht (by omega) (i := 2) rfl rfl rfl (Nat.le_succ_of_le (Nat.le_refl _)) (by rw [hits]; simp) ?_
  have I0 : Inv X pins σ H { s with toks := s.toks + 1 + 1 } := (I.tok _).tok _
  refine unpack_starT (us := [.str z, t]) (vs := xs) hcalm I0 hS rfl (by simp; omega) fun b ws s' I1 Im nb rw1 => ?_
  cases rw1 with
  | @cons _ u0 _ us r0 rr =>
    obtain ⟨t0, rfl⟩ := r0
    cases rr with
    | @cons _ u1 _ us r1 rr =>
      cases rr
      refine wpAny_matchEach_cons (wpAny_matchPattern_Or ?_)
      by_cases h1 : z = w1
      · rw [if_pos (by simp [h1])] at q
        refine wpAny_matchFirst_cons (pat_str I1 fun s2 I2 => ?_)
        rw [if_pos h1]
        refine wpAny_matchEach_cons (wpAny_matchPattern_Capture ?_)
        refine W.kun_each (wpAny_matchEach_nil ?_)
        have I3 := bind_cap hN (n := [some x, some y]) (sl := [some i, some j]) (.cap hx lx fx (.cap hy ly fy .nil)) (vs := [t, .ref b]) (.cons r1 (.cons rfl .nil)) I2
        exact wpAny_mono I3 (fun _ s4 I4 => hb.run pins s4 _ _ D I4 (q b nb)) fun _ _ z => z
      · by_cases h2 : z = w2
        · rw [if_pos (by simp [h2])] at q
          refine wpAny_matchFirst_cons (pat_str I1 fun s2 I2 => ?_)
          rw [if_neg h1]
          refine wpAny_matchFirst_cons (pat_str I2 fun s3 I3 => ?_)
          rw [if_pos h2]
          refine wpAny_matchEach_cons (wpAny_matchPattern_Capture ?_)
          refine W.kun_each (wpAny_matchEach_nil ?_)
          have I4 := bind_cap hN (n := [some x, some y]) (sl := [some i, some j]) (.cap hx lx fx (.cap hy ly fy .nil)) (vs := [t, .ref b]) (.cons r1 (.cons rfl .nil)) I3
          exact wpAny_mono I4 (fun _ s4 I4 => hb.run pins s4 _ _ D I4 (q b nb)) fun _ _ z => z
        · rw [if_neg (by simp [h1, h2])] at q
          refine wpAny_matchFirst_cons (pat_str Im fun s2 I2 => ?_)
          rw [if_neg h1]
          refine wpAny_matchFirst_cons (pat_str I2 fun s3 I3 => ?_)
          rw [if_neg h2]
          refine wpAny_matchFirst_nil ?_
          exact hr.run false pins s3 σ H D (.ref a) _ I3 rfl q
end Bq
end

section
set_option maxRecDepth 100000
set_option maxHeartbeats 1000000
namespace Bq
open PySem PySem.Spec PyProof.Rows L2
/-! ### what is one's own in the heap -/
structure Own (K : PySem.W.Frag) (H0 H : Hp) (S : List (Addr × HO)) : Prop where
  c : Ch K [] H0 H
  h : ∀ p ∈ S, H p.1 = some p.2
  f : ∀ p ∈ S, H0 p.1 = none
  nd : (S.map (·.1)).Nodup
section
variable {K : PySem.W.Frag} {H0 H H' : Hp} {S S' l1 l2 : List (Addr × HO)} {a p : Addr} {o u : HO}
theorem Own.ch (w : Own K H0 H S) (c : Ch K [] H H') : Own K H0 H' S := ⟨w.c.trans c, fun p hp => c.up _ _ (w.h p hp) (by simp), w.f, w.nd⟩
theorem Own.sub (w : Own K H0 H S) (h : S'.Sublist S) : Own K H0 H S' := ⟨w.c, fun p hp => w.h p (h.subset hp), fun p hp => w.f p (h.subset hp), w.nd.sublist (h.map _)⟩
theorem Own.perm (w : Own K H0 H S) (h : S.Perm S') : Own K H0 H S' := ⟨w.c, fun p hp => w.h p (h.mem_iff.mpr hp), fun p hp => w.f p (h.mem_iff.mpr hp), (h.map _).nodup_iff.mp w.nd⟩
theorem Own.new (w : Own K H0 H S) (n : H p = none) (c : Ch K [] H H') (e : H' p = some o) : Own K H0 H' ((p, o) :: S) := by
  refine ⟨w.c.trans c, fun q hq => ?_, fun q hq => ?_, ?_⟩
  · rcases List.mem_cons.mp hq with rfl | hq
    · exact e
    · exact c.up _ _ (w.h q hq) (by simp)
  · rcases List.mem_cons.mp hq with rfl | hq
    · exact w.c.free n (by simp)
    · exact w.f q hq
  · rw [List.map_cons, List.nodup_cons]
    refine ⟨fun hm => ?_, w.nd⟩
    obtain ⟨q, hq, e2⟩ := List.mem_map.mp hm
    have := w.h q hq
    rw [e2, n] at this
    cases this
theorem Own.set (w : Own K H0 H (l1 ++ (a, u) :: l2)) (c : Ch K [a] H H') (e : H' a = some o) : Own K H0 H' (l1 ++ (a, o) :: l2) := by
  have nd := w.nd
  rw [List.map_append, List.map_cons] at nd
  have na : ∀ q ∈ l1 ++ l2, q.1 ≠ a := fun q hq z => by
    have h1 := (List.nodup_append.mp nd).2.1
    have h2 := (List.nodup_append.mp nd).2.2
    rcases List.mem_append.mp hq with hq | hq
    · exact h2 q.1 (List.mem_map.mpr ⟨q, hq, rfl⟩) a (List.mem_cons_self ..) z
    · exact (List.nodup_cons.mp h1).1 (List.mem_map.mpr ⟨q, hq, z⟩)
  refine ⟨⟨fun b o' h n => c.up _ _ (w.c.up _ _ h n) (fun z => ?_), w.c.kt.trans c.kt⟩, fun q hq => ?_, fun q hq => ?_, ?_⟩
  · have hb : b = a := by simpa using z
    have := w.f (a, u) (by simp)
    rw [hb] at h
    rw [h] at this
    cases this
  · by_cases hqa : q = (a, o)
    · rw [hqa]; exact e
    · have hq' : q ∈ l1 ++ l2 := by
        rcases List.mem_append.mp hq with h | h
        · exact List.mem_append.mpr (.inl h)
        · rcases List.mem_cons.mp h with h | h
          · exact absurd h hqa
          · exact List.mem_append.mpr (.inr h)
      refine c.up _ _ (w.h q ?_) (by simpa using na q hq')
      rcases List.mem_append.mp hq' with h | h
      · exact List.mem_append.mpr (.inl h)
      · exact List.mem_append.mpr (.inr (List.mem_cons_of_mem _ h))
  · by_cases hqa : q = (a, o)
    · rw [hqa]; exact w.f (a, u) (by simp)
    · refine w.f q ?_
      rcases List.mem_append.mp hq with h | h
      · exact List.mem_append.mpr (.inl h)
      · rcases List.mem_cons.mp h with h | h
        · exact absurd h hqa
        · exact List.mem_append.mpr (.inr (List.mem_cons_of_mem _ h))
  · rw [List.map_append, List.map_cons]
    exact nd
theorem Own.wr (w : Own K H0 H (l1 ++ (a, u) :: l2)) (ht : notT u = true) : Own K H0 (upd H a o) (l1 ++ (a, o) :: l2) := w.set (Ch.wr (w.h (a, u) (by simp)) ht (by simp)) upd_same
theorem Own.at_ (w : Own K H0 H (l1 ++ (a, u) :: l2)) : H a = some u := w.h (a, u) (by simp)
end
end Bq
end

section
set_option maxRecDepth 100000
set_option maxHeartbeats 1000000
namespace Bq
open PySem PySem.Spec PyProof.Rows L2
/-! ### texts -/
def sp : Str := " "
theorem S_assoc (a b c : Str) : a ++ b ++ c = a ++ (b ++ c) := by
  show Str.mk (a.cps ++ b.cps ++ c.cps) = Str.mk (a.cps ++ (b.cps ++ c.cps))
  rw [Array.append_assoc]
theorem S_nilL (a : Str) : ("" : Str) ++ a = a := by
  show Str.mk ((Str.ofString "").cps ++ a.cps) = a
  rw [ofString_empty]
  simp
theorem S_nilR (a : Str) : a ++ ("" : Str) = a := by
  show Str.mk (a.cps ++ (Str.ofString "").cps) = a
  rw [ofString_empty]
  simp
theorem S_len (a b : Str) : (a ++ b).length = a.length + b.length := by
  show (a.cps ++ b.cps).size = _
  rw [Array.size_append]
  rfl
theorem tl_app (a b : Str) : TL.tl (a ++ b) = TL.tl a ++ TL.tl b := by
  show (a.cps ++ b.cps).toList = _
  rw [Array.toList_append]
theorem S_ext {a b : Str} (h : TL.tl a = TL.tl b) : a = b := by
  cases a with
  | mk a => cases b with
    | mk b => exact congrArg Str.mk (Array.ext' h)
theorem len_tl (a : Str) : a.length = (TL.tl a).length := (Array.length_toList).symm
/-- words, one blank between each -/
def jn (ws : List Str) : Str := Txt.join sp ws
theorem jn_eq (ws : List Str) : jn ws = sp.join ws := StrLaws.glued_eq_join sp ws
theorem jn_one (a : Str) : jn [a] = a := by rw [jn_eq]; rfl
theorem jn_cons (a b : Str) (r : List Str) : jn (a :: b :: r) = a ++ (sp ++ jn (b :: r)) := by
  rw [jn_eq, jn_eq, ← S_assoc]
  rfl
theorem jn_app : ∀ {xs ys : List Str}, xs ≠ [] → ys ≠ [] → jn (xs ++ ys) = jn xs ++ (sp ++ jn ys)
  | [], _, h, _ => (h rfl).elim
  | [a], [], _, h => (h rfl).elim
  | [a], b :: r, _, _ => by rw [List.singleton_append, jn_cons, jn_one]
  | a :: b :: r, ys, _, h => by
    have ih := jn_app (xs := b :: r) (ys := ys) (by simp) h
    rw [List.cons_append, List.cons_append, jn_cons, ← List.cons_append, ih, jn_cons, S_assoc, S_assoc]
/-- words, a blank behind each -/
def bl : List Str → Str
  | [] => ""
  | w :: r => w ++ (sp ++ bl r)
theorem bl_app : ∀ (xs ys : List Str), bl (xs ++ ys) = bl xs ++ bl ys
  | [], ys => (S_nilL _).symm
  | a :: r, ys => by
    show a ++ (sp ++ bl (r ++ ys)) = (a ++ (sp ++ bl r)) ++ bl ys
    rw [bl_app r ys, S_assoc, S_assoc]
theorem bl_jn : ∀ {xs : List Str}, xs ≠ [] → bl xs = jn xs ++ sp
  | [], h => (h rfl).elim
  | [a], _ => by
    show a ++ (sp ++ "") = _
    rw [S_nilR, jn_one]
  | a :: b :: r, _ => by
    have ih := bl_jn (xs := b :: r) (by simp)
    show a ++ (sp ++ bl (b :: r)) = _
    rw [ih, jn_cons, S_assoc, S_assoc]
theorem sp_len : sp.length = 1 := by decide +kernel
theorem bl_len : ∀ {xs : List Str} {k : Nat}, (∀ w ∈ xs, w.length ≤ k) → (bl xs).length ≤ (k + 1) * xs.length
  | [], k, _ => by
    show ("" : Str).length ≤ _
    have : ("" : Str).length = 0 := by decide +kernel
    omega
  | a :: r, k, h => by
    have ih := bl_len (xs := r) (k := k) fun w hw => h w (by simp [hw])
    have ha := h a (by simp)
    show (a ++ (sp ++ bl r)).length ≤ _
    rw [S_len, S_len, sp_len, List.length_cons, Nat.mul_add]
    omega
theorem cutS_last (x : Str) (h : 0 < x.length + 1) : cutS (x ++ sp) none (some (-1)) = x := by
  apply S_ext
  have e : (x ++ sp).length = x.length + 1 := by rw [S_len, sp_len]
  show (List.take (HT.sIx (x ++ sp).length (x ++ sp).length (some (-1)) - HT.sIx (x ++ sp).length 0 none) (List.drop (HT.sIx (x ++ sp).length 0 none) (TL.tl (x ++ sp)))).toArray.toList = TL.tl x
  rw [e, tl_app]
  have e1 : HT.sIx (x.length + 1) (x.length + 1) (some (-1)) = x.length := by
    simp only [HT.sIx]
    rw [if_pos (by decide)]
    omega
  rw [e1]
  show (List.take (x.length - 0) (List.drop 0 (TL.tl x ++ TL.tl sp))).toArray.toList = TL.tl x
  rw [List.drop_zero, Nat.sub_zero, len_tl, List.take_left]
theorem cutS_from1 (c : Nat) (x : Str) (h : TL.tl x = c :: l) : TL.tl (cutS x (some 1) none) = l := by
  have e : x.length = l.length + 1 := by rw [len_tl, h]; rfl
  show (List.take (HT.sIx x.length x.length none - HT.sIx x.length 0 (some 1)) (List.drop (HT.sIx x.length 0 (some 1)) (TL.tl x))).toArray.toList = l
  have e1 : HT.sIx x.length 0 (some 1) = 1 := by
    simp only [HT.sIx]
    rw [if_neg (by decide), e]
    show min 1 (l.length + 1) = 1
    omega
  have e2 : HT.sIx x.length x.length none = l.length + 1 := by rw [← e]; rfl
  rw [e1, e2, h]
  simp
/-! ### numbers as words -/
def wn (i : Int) : Str := Str.ofString (toString i)
theorem tl_pos (n : Nat) : TL.tl (wn (n : Int)) = TL.numL n := TL.tl_num n
theorem tl_neg (n : Nat) : TL.tl (wn (Int.negSucc n)) = 45 :: TL.numL (n + 1) := by
  rw [← TL.tl_num (n + 1)]
  show (Str.ofString (toString (Int.negSucc n))).cps.toList = 45 :: (Str.ofString (toString ((n + 1 : Nat) : Int))).cps.toList
  rw [Str.ofString_eq_toList, Str.ofString_eq_toList]
  have e : toString (Int.negSucc n) = "-" ++ toString ((n + 1 : Nat) : Int) := rfl
  rw [e, String.toList_append, List.map_append]
  rfl
end Bq
end

section
set_option maxRecDepth 100000
namespace K3
open PySem PySem.Spec PyProof.Rows L2
def top (i : Nat) : Stmt := PySem.Challenge.pw_queuemill_k18_texts.main.body.getD i (.Pass ⟨0, 0, 0, 0⟩)
abbrev FnP (K : PySem.W.Frag) (x ql : Str) (st : Stmt) (f : Addr) (fd : FuncData) : Prop := FunD K x ql (defArgs st) (defBody st) (defScope st) [] [] f fd
abbrev s_BadProgram_init : Stmt := inClass (top 2) 0
abbrev s_BadText_init : Stmt := inClass (top 3) 0
abbrev s_is_number : Stmt := top 9
abbrev s_places_behind : Stmt := top 10
abbrev s_parts_of : Stmt := top 11
abbrev s_bodies_of : Stmt := top 12
abbrev s_check_program : Stmt := top 22
abbrev s_params_of : Stmt := top 23
abbrev s_fun_flaw : Stmt := top 24
abbrev s_body_flaw : Stmt := top 25
abbrev s_things_within : Stmt := top 26
abbrev s_bound_flaw : Stmt := top 27
abbrev s_shape_flaw : Stmt := top 28
abbrev s_number_flaw : Stmt := top 29
abbrev s_takes : Stmt := top 30
abbrev s_written : Stmt := top 37
abbrev s_read : Stmt := top 38
abbrev s_write_all : Stmt := top 39
abbrev s_write_thing : Stmt := top 40
abbrev s_write_bodies : Stmt := top 41
abbrev s_items_of : Stmt := top 42
abbrev s_wants_behind : Stmt := top 43
abbrev s_wants_behind_part : Stmt := top 44
abbrev s_wants_of : Stmt := top 45
abbrev s_is_number_word : Stmt := top 46
abbrev s_is_name_word : Stmt := top 47
abbrev s_is_count_word : Stmt := top 48
abbrev s_item_of : Stmt := top 49
abbrev s_built : Stmt := top 50
abbrev s_build : Stmt := top 51
abbrev s_taken : Stmt := top 52
abbrev s_in_turn : Stmt := top 53
abbrev s_law_dice : Stmt := top 55
abbrev s_law_next : Stmt := top 56
abbrev s_law_like : Stmt := top 57
abbrev s_law_leaf : Stmt := top 58
abbrev s_law_part : Stmt := top 59
abbrev s_law_one : Stmt := top 60
abbrev s_law_deed : Stmt := top 61
abbrev s_law_while : Stmt := top 62
abbrev s_law_body : Stmt := top 63
abbrev s_law_things : Stmt := top 64
abbrev s_law_tower : Stmt := top 65
abbrev s_law_program : Stmt := top 66
abbrev s_law_inner : Stmt := top 67
abbrev s_law_part_text : Stmt := top 68
abbrev s_law_body_text : Stmt := top 69
abbrev s_law : Stmt := top 70
theorem sc_is_number : FnScope ["thing"] ["thing"] (defScope s_is_number) := ⟨rfl, rfl, rfl, by decide +kernel, rfl, by decide +kernel, by decide +kernel⟩
theorem sc_places_behind : FnScope ["word"] ["word"] (defScope s_places_behind) := ⟨rfl, rfl, rfl, by decide +kernel, rfl, by decide +kernel, by decide +kernel⟩
theorem sc_parts_of : FnScope ["thing", "place", "item"] ["thing"] (defScope s_parts_of) := ⟨rfl, rfl, rfl, by decide +kernel, rfl, by decide +kernel, by decide +kernel⟩
theorem sc_bodies_of : FnScope ["thing", "place", "item"] ["thing"] (defScope s_bodies_of) := ⟨rfl, rfl, rfl, by decide +kernel, rfl, by decide +kernel, by decide +kernel⟩
theorem sc_check_program : FnScope ["program", "fun", "params", "number", "flaw", "at", "why"] ["program"] (defScope s_check_program) := ⟨rfl, rfl, rfl, by decide +kernel, rfl, by decide +kernel, by decide +kernel⟩
theorem sc_params_of : FnScope ["fun"] ["fun"] (defScope s_params_of) := ⟨rfl, rfl, rfl, by decide +kernel, rfl, by decide +kernel, by decide +kernel⟩
theorem sc_fun_flaw : FnScope ["number", "fun", "params", "handed", "most", "_", "names", "body"] ["number", "fun", "params"] (defScope s_fun_flaw) := ⟨rfl, rfl, rfl, by decide +kernel, rfl, by decide +kernel, by decide +kernel⟩
theorem sc_body_flaw : FnScope ["body", "names", "params", "todo", "at", "wide", "thing", "around", "why", "deed"] ["body", "names", "params"] (defScope s_body_flaw) := ⟨rfl, rfl, rfl, by decide +kernel, rfl, by decide +kernel, by decide +kernel⟩
theorem sc_things_within : FnScope ["thing", "around", "found", "body", "part", "deed"] ["thing", "around"] (defScope s_things_within) := ⟨rfl, rfl, rfl, by decide +kernel, rfl, by decide +kernel, by decide +kernel⟩
theorem sc_bound_flaw : FnScope ["at", "around", "wide"] ["at", "around", "wide"] (defScope s_bound_flaw) := ⟨rfl, rfl, rfl, by decide +kernel, rfl, by decide +kernel, by decide +kernel⟩
theorem sc_shape_flaw : FnScope ["thing", "around", "known", "place", "item"] ["thing", "around"] (defScope s_shape_flaw) := ⟨rfl, rfl, rfl, by decide +kernel, rfl, by decide +kernel, by decide +kernel⟩
theorem sc_number_flaw : FnScope ["thing", "names", "params", "place", "item"] ["thing", "names", "params"] (defScope s_number_flaw) := ⟨rfl, rfl, rfl, by decide +kernel, rfl, by decide +kernel, by decide +kernel⟩
theorem sc_takes : FnScope ["fun", "many", "params"] ["fun", "many", "params"] (defScope s_takes) := ⟨rfl, rfl, rfl, by decide +kernel, rfl, by decide +kernel, by decide +kernel⟩
theorem sc_written : FnScope ["program", "words", "params", "names", "body"] ["program"] (defScope s_written) := ⟨rfl, rfl, rfl, by decide +kernel, rfl, by decide +kernel, by decide +kernel⟩
theorem sc_read : FnScope ["text", "words", "program"] ["text"] (defScope s_read) := ⟨rfl, rfl, rfl, by decide +kernel, rfl, by decide +kernel, by decide +kernel⟩
theorem sc_write_all : FnScope ["things", "words", "thing"] ["things", "words"] (defScope s_write_all) := ⟨rfl, rfl, rfl, by decide +kernel, rfl, by decide +kernel, by decide +kernel⟩
theorem sc_write_thing : FnScope ["thing", "words", "n", "name", "fun", "parts", "part", "test", "bodies", "word"] ["thing", "words"] (defScope s_write_thing) := ⟨rfl, rfl, rfl, by decide +kernel, rfl, by decide +kernel, by decide +kernel⟩
theorem sc_write_bodies : FnScope ["bodies", "words", "place", "body"] ["bodies", "words"] (defScope s_write_bodies) := ⟨rfl, rfl, rfl, by decide +kernel, rfl, by decide +kernel, by decide +kernel⟩
theorem sc_items_of : FnScope ["words", "wanted", "items", "place", "word", "want", "behind"] ["words"] (defScope s_items_of) := ⟨rfl, rfl, rfl, by decide +kernel, rfl, by decide +kernel, by decide +kernel⟩
theorem sc_wants_behind : FnScope ["word", "want"] ["word", "want"] (defScope s_wants_behind) := ⟨rfl, rfl, rfl, by decide +kernel, rfl, by decide +kernel, by decide +kernel⟩
theorem sc_wants_behind_part : FnScope ["word"] ["word"] (defScope s_wants_behind_part) := ⟨rfl, rfl, rfl, by decide +kernel, rfl, by decide +kernel, by decide +kernel⟩
theorem sc_wants_of : FnScope ["word", "wants", "place"] ["word"] (defScope s_wants_of) := ⟨rfl, rfl, rfl, by decide +kernel, rfl, by decide +kernel, by decide +kernel⟩
theorem sc_is_number_word : FnScope ["word", "figures"] ["word"] (defScope s_is_number_word) := ⟨rfl, rfl, rfl, by decide +kernel, rfl, by decide +kernel, by decide +kernel⟩
theorem sc_is_name_word : FnScope ["word"] ["word"] (defScope s_is_name_word) := ⟨rfl, rfl, rfl, by decide +kernel, rfl, by decide +kernel, by decide +kernel⟩
theorem sc_is_count_word : FnScope ["word"] ["word"] (defScope s_is_count_word) := ⟨rfl, rfl, rfl, by decide +kernel, rfl, by decide +kernel, by decide +kernel⟩
theorem sc_item_of : FnScope ["word", "want"] ["word", "want"] (defScope s_item_of) := ⟨rfl, rfl, rfl, by decide +kernel, rfl, by decide +kernel, by decide +kernel⟩
theorem sc_built : FnScope ["items", "pile", "item"] ["items"] (defScope s_built) := ⟨rfl, rfl, rfl, by decide +kernel, rfl, by decide +kernel, by decide +kernel⟩
theorem sc_build : FnScope ["word", "pile", "fun", "thing", "place"] ["word", "pile"] (defScope s_build) := ⟨rfl, rfl, rfl, by decide +kernel, rfl, by decide +kernel, by decide +kernel⟩
theorem sc_taken : FnScope ["place", "pile", "many", "_"] ["place", "pile"] (defScope s_taken) := ⟨rfl, rfl, rfl, by decide +kernel, rfl, by decide +kernel, by decide +kernel⟩
theorem sc_in_turn : FnScope ["backwards"] ["backwards"] (defScope s_in_turn) := ⟨rfl, rfl, rfl, by decide +kernel, rfl, by decide +kernel, by decide +kernel⟩
theorem sc_law_dice : FnScope ["_law_script", "_law_mixed", "_law_cell"] ["_law_script"] (defScope s_law_dice) := ⟨rfl, rfl, rfl, by decide +kernel, rfl, by decide +kernel, by decide +kernel⟩
theorem sc_law_next : FnScope ["_law_dice_here", "_law_many", "_law_found", "_law_cell"] ["_law_dice_here", "_law_many"] (defScope s_law_next) := ⟨rfl, rfl, rfl, by decide +kernel, rfl, by decide +kernel, by decide +kernel⟩
theorem sc_law_like : FnScope ["_law_found", "_law_due", "_law_k"] ["_law_found", "_law_due"] (defScope s_law_like) := ⟨rfl, rfl, rfl, by decide +kernel, rfl, by decide +kernel, by decide +kernel⟩
theorem sc_law_leaf : FnScope ["_law_d", "_law_names"] ["_law_d", "_law_names"] (defScope s_law_leaf) := ⟨rfl, rfl, rfl, by decide +kernel, rfl, by decide +kernel, by decide +kernel⟩
theorem sc_law_part : FnScope ["_law_d", "_law_w", "_law_room", "_law_way", "_law_words", "_law_one_here", "_law_fun", "_law_k"] ["_law_d", "_law_w", "_law_room"] (defScope s_law_part) := ⟨rfl, rfl, rfl, by decide +kernel, rfl, by decide +kernel, by decide +kernel⟩
theorem sc_law_one : FnScope ["_law_d", "_law_w", "_law_most", "_law_found"] ["_law_d", "_law_w", "_law_most"] (defScope s_law_one) := ⟨rfl, rfl, rfl, by decide +kernel, rfl, by decide +kernel, by decide +kernel⟩
theorem sc_law_deed : FnScope ["_law_d", "_law_w", "_law_deep", "_law_way"] ["_law_d", "_law_w", "_law_deep"] (defScope s_law_deed) := ⟨rfl, rfl, rfl, by decide +kernel, rfl, by decide +kernel, by decide +kernel⟩
theorem sc_law_while : FnScope ["_law_d", "_law_w", "_law_deep", "_law_body_here", "_law_name", "_law_last", "_law_cell"] ["_law_d", "_law_w", "_law_deep"] (defScope s_law_while) := ⟨rfl, rfl, rfl, by decide +kernel, rfl, by decide +kernel, by decide +kernel⟩
theorem sc_law_body : FnScope ["_law_d", "_law_w", "_law_deep", "_law_k"] ["_law_d", "_law_w", "_law_deep"] (defScope s_law_body) := ⟨rfl, rfl, rfl, by decide +kernel, rfl, by decide +kernel, by decide +kernel⟩
theorem sc_law_things : FnScope ["_law_thing", "_law_own", "_law_one_here"] ["_law_thing"] (defScope s_law_things) := ⟨rfl, rfl, rfl, by decide +kernel, rfl, by decide +kernel, by decide +kernel⟩
theorem sc_law_tower : FnScope ["_law_d", "_law_body_here", "_law_turn", "_law_cell", "_law_last", "_law_around"] ["_law_d", "_law_body_here"] (defScope s_law_tower) := ⟨rfl, rfl, rfl, by decide +kernel, rfl, by decide +kernel, by decide +kernel⟩
theorem sc_law_program : FnScope ["_law_d", "_law_many", "_law_k", "_law_params", "_law_found", "_law_names", "_law_w", "_law_body_here"] ["_law_d"] (defScope s_law_program) := ⟨rfl, rfl, rfl, by decide +kernel, rfl, by decide +kernel, by decide +kernel⟩
theorem sc_law_inner : FnScope ["_law_thing", "_law_many"] ["_law_thing"] (defScope s_law_inner) := ⟨rfl, rfl, rfl, by decide +kernel, rfl, by decide +kernel, by decide +kernel⟩
theorem sc_law_part_text : FnScope ["_law_part_here", "_law_found", "_law_one_here"] ["_law_part_here"] (defScope s_law_part_text) := ⟨rfl, rfl, rfl, by decide +kernel, rfl, by decide +kernel, by decide +kernel⟩
theorem sc_law_body_text : FnScope ["_law_deeds", "_law_found", "_law_deed_here", "_law_part_here"] ["_law_deeds"] (defScope s_law_body_text) := ⟨rfl, rfl, rfl, by decide +kernel, rfl, by decide +kernel, by decide +kernel⟩
theorem sc_law : FnScope ["_law_script", "_law_d", "_law_turn", "_law_program_here", "_law_one_here", "_law_other", "_law_far", "_law_text", "_law_params", "_law_names", "_law_body_here", "_law_head"] ["_law_script"] (defScope s_law) := ⟨rfl, rfl, rfl, by decide +kernel, rfl, by decide +kernel, by decide +kernel⟩
end K3
end

section
set_option maxRecDepth 100000
set_option maxHeartbeats 0
namespace K3
open PySem PySem.Spec PyProof.Rows L2
def d_BadProgram_init : He.DefD := ⟨("BadProgram", some "__init__"), "__init__", "BadProgram.__init__", defArgs s_BadProgram_init, defBody s_BadProgram_init, defScope s_BadProgram_init, [], []⟩
def d_BadText_init : He.DefD := ⟨("BadText", some "__init__"), "__init__", "BadText.__init__", defArgs s_BadText_init, defBody s_BadText_init, defScope s_BadText_init, [], []⟩
def d_is_number : He.DefD := ⟨("is_number", none), "is_number", "is_number", defArgs s_is_number, defBody s_is_number, defScope s_is_number, [], []⟩
def d_places_behind : He.DefD := ⟨("places_behind", none), "places_behind", "places_behind", defArgs s_places_behind, defBody s_places_behind, defScope s_places_behind, [], []⟩
def d_parts_of : He.DefD := ⟨("parts_of", none), "parts_of", "parts_of", defArgs s_parts_of, defBody s_parts_of, defScope s_parts_of, [], []⟩
def d_bodies_of : He.DefD := ⟨("bodies_of", none), "bodies_of", "bodies_of", defArgs s_bodies_of, defBody s_bodies_of, defScope s_bodies_of, [], []⟩
def d_check_program : He.DefD := ⟨("check_program", none), "check_program", "check_program", defArgs s_check_program, defBody s_check_program, defScope s_check_program, [], []⟩
def d_params_of : He.DefD := ⟨("params_of", none), "params_of", "params_of", defArgs s_params_of, defBody s_params_of, defScope s_params_of, [], []⟩
def d_fun_flaw : He.DefD := ⟨("fun_flaw", none), "fun_flaw", "fun_flaw", defArgs s_fun_flaw, defBody s_fun_flaw, defScope s_fun_flaw, [], []⟩
def d_body_flaw : He.DefD := ⟨("body_flaw", none), "body_flaw", "body_flaw", defArgs s_body_flaw, defBody s_body_flaw, defScope s_body_flaw, [], []⟩
def d_things_within : He.DefD := ⟨("things_within", none), "things_within", "things_within", defArgs s_things_within, defBody s_things_within, defScope s_things_within, [], []⟩
def d_bound_flaw : He.DefD := ⟨("bound_flaw", none), "bound_flaw", "bound_flaw", defArgs s_bound_flaw, defBody s_bound_flaw, defScope s_bound_flaw, [], []⟩
def d_shape_flaw : He.DefD := ⟨("shape_flaw", none), "shape_flaw", "shape_flaw", defArgs s_shape_flaw, defBody s_shape_flaw, defScope s_shape_flaw, [], []⟩
def d_number_flaw : He.DefD := ⟨("number_flaw", none), "number_flaw", "number_flaw", defArgs s_number_flaw, defBody s_number_flaw, defScope s_number_flaw, [], []⟩
def d_takes : He.DefD := ⟨("takes", none), "takes", "takes", defArgs s_takes, defBody s_takes, defScope s_takes, [], []⟩
def d_written : He.DefD := ⟨("written", none), "written", "written", defArgs s_written, defBody s_written, defScope s_written, [], []⟩
def d_read : He.DefD := ⟨("read", none), "read", "read", defArgs s_read, defBody s_read, defScope s_read, [], []⟩
def d_write_all : He.DefD := ⟨("write_all", none), "write_all", "write_all", defArgs s_write_all, defBody s_write_all, defScope s_write_all, [], []⟩
def d_write_thing : He.DefD := ⟨("write_thing", none), "write_thing", "write_thing", defArgs s_write_thing, defBody s_write_thing, defScope s_write_thing, [], []⟩
def d_write_bodies : He.DefD := ⟨("write_bodies", none), "write_bodies", "write_bodies", defArgs s_write_bodies, defBody s_write_bodies, defScope s_write_bodies, [], []⟩
def d_items_of : He.DefD := ⟨("items_of", none), "items_of", "items_of", defArgs s_items_of, defBody s_items_of, defScope s_items_of, [], []⟩
def d_wants_behind : He.DefD := ⟨("wants_behind", none), "wants_behind", "wants_behind", defArgs s_wants_behind, defBody s_wants_behind, defScope s_wants_behind, [], []⟩
def d_wants_behind_part : He.DefD := ⟨("wants_behind_part", none), "wants_behind_part", "wants_behind_part", defArgs s_wants_behind_part, defBody s_wants_behind_part, defScope s_wants_behind_part, [], []⟩
def d_wants_of : He.DefD := ⟨("wants_of", none), "wants_of", "wants_of", defArgs s_wants_of, defBody s_wants_of, defScope s_wants_of, [], []⟩
def d_is_number_word : He.DefD := ⟨("is_number_word", none), "is_number_word", "is_number_word", defArgs s_is_number_word, defBody s_is_number_word, defScope s_is_number_word, [], []⟩
def d_is_name_word : He.DefD := ⟨("is_name_word", none), "is_name_word", "is_name_word", defArgs s_is_name_word, defBody s_is_name_word, defScope s_is_name_word, [], []⟩
def d_is_count_word : He.DefD := ⟨("is_count_word", none), "is_count_word", "is_count_word", defArgs s_is_count_word, defBody s_is_count_word, defScope s_is_count_word, [], []⟩
def d_item_of : He.DefD := ⟨("item_of", none), "item_of", "item_of", defArgs s_item_of, defBody s_item_of, defScope s_item_of, [], []⟩
def d_built : He.DefD := ⟨("built", none), "built", "built", defArgs s_built, defBody s_built, defScope s_built, [], []⟩
def d_build : He.DefD := ⟨("build", none), "build", "build", defArgs s_build, defBody s_build, defScope s_build, [], []⟩
def d_taken : He.DefD := ⟨("taken", none), "taken", "taken", defArgs s_taken, defBody s_taken, defScope s_taken, [], []⟩
def d_in_turn : He.DefD := ⟨("in_turn", none), "in_turn", "in_turn", defArgs s_in_turn, defBody s_in_turn, defScope s_in_turn, [], []⟩
def d_law_dice : He.DefD := ⟨("_law_dice", none), "_law_dice", "_law_dice", defArgs s_law_dice, defBody s_law_dice, defScope s_law_dice, [], []⟩
def d_law_next : He.DefD := ⟨("_law_next", none), "_law_next", "_law_next", defArgs s_law_next, defBody s_law_next, defScope s_law_next, [], []⟩
def d_law_like : He.DefD := ⟨("_law_like", none), "_law_like", "_law_like", defArgs s_law_like, defBody s_law_like, defScope s_law_like, [], []⟩
def d_law_leaf : He.DefD := ⟨("_law_leaf", none), "_law_leaf", "_law_leaf", defArgs s_law_leaf, defBody s_law_leaf, defScope s_law_leaf, [], []⟩
def d_law_part : He.DefD := ⟨("_law_part", none), "_law_part", "_law_part", defArgs s_law_part, defBody s_law_part, defScope s_law_part, [], []⟩
def d_law_one : He.DefD := ⟨("_law_one", none), "_law_one", "_law_one", defArgs s_law_one, defBody s_law_one, defScope s_law_one, [], []⟩
def d_law_deed : He.DefD := ⟨("_law_deed", none), "_law_deed", "_law_deed", defArgs s_law_deed, defBody s_law_deed, defScope s_law_deed, [], []⟩
def d_law_while : He.DefD := ⟨("_law_while", none), "_law_while", "_law_while", defArgs s_law_while, defBody s_law_while, defScope s_law_while, [], []⟩
def d_law_body : He.DefD := ⟨("_law_body", none), "_law_body", "_law_body", defArgs s_law_body, defBody s_law_body, defScope s_law_body, [], []⟩
def d_law_things : He.DefD := ⟨("_law_things", none), "_law_things", "_law_things", defArgs s_law_things, defBody s_law_things, defScope s_law_things, [], []⟩
def d_law_tower : He.DefD := ⟨("_law_tower", none), "_law_tower", "_law_tower", defArgs s_law_tower, defBody s_law_tower, defScope s_law_tower, [], []⟩
def d_law_program : He.DefD := ⟨("_law_program", none), "_law_program", "_law_program", defArgs s_law_program, defBody s_law_program, defScope s_law_program, [], []⟩
def d_law_inner : He.DefD := ⟨("_law_inner", none), "_law_inner", "_law_inner", defArgs s_law_inner, defBody s_law_inner, defScope s_law_inner, [], []⟩
def d_law_part_text : He.DefD := ⟨("_law_part_text", none), "_law_part_text", "_law_part_text", defArgs s_law_part_text, defBody s_law_part_text, defScope s_law_part_text, [], []⟩
def d_law_body_text : He.DefD := ⟨("_law_body_text", none), "_law_body_text", "_law_body_text", defArgs s_law_body_text, defBody s_law_body_text, defScope s_law_body_text, [], []⟩
def d_law : He.DefD := ⟨("law", none), "law", "law", defArgs s_law, defBody s_law, defScope s_law, [], []⟩
def fn_0 : List He.DefD := [d_is_number, d_places_behind, d_parts_of, d_bodies_of, d_check_program, d_params_of, d_fun_flaw, d_body_flaw, d_things_within, d_bound_flaw, d_shape_flaw, d_number_flaw, d_takes, d_written, d_read, d_write_all, d_write_thing, d_write_bodies, d_items_of, d_wants_behind, d_wants_behind_part, d_wants_of, d_is_number_word, d_is_name_word, d_is_count_word, d_item_of, d_built, d_build, d_taken, d_in_turn, d_law_dice, d_law_next, d_law_like, d_law_leaf, d_law_part]
def fn_1 : List He.DefD := [d_law_one, d_law_deed, d_law_while, d_law_body, d_law_things, d_law_tower, d_law_program, d_law_inner, d_law_part_text, d_law_body_text, d_law]
def fn : List He.DefD := fn_0 ++ fn_1
def fa_0 : List He.Fa := [.glo "is_number", .glo "places_behind", .glo "parts_of", .glo "bodies_of", .glo "check_program", .glo "params_of", .glo "fun_flaw", .glo "body_flaw", .glo "things_within", .glo "bound_flaw", .glo "shape_flaw", .glo "number_flaw", .glo "takes", .glo "written", .glo "read", .glo "write_all", .glo "write_thing", .glo "write_bodies", .glo "items_of", .glo "wants_behind", .glo "wants_behind_part", .glo "wants_of", .glo "is_number_word", .glo "is_name_word", .glo "is_count_word", .glo "item_of", .glo "built", .glo "build", .glo "taken", .glo "in_turn", .glo "_law_dice", .glo "_law_next", .glo "_law_like", .glo "_law_leaf", .glo "_law_part"]
def fa_1 : List He.Fa := [.glo "_law_one", .glo "_law_deed", .glo "_law_while", .glo "_law_body", .glo "_law_things", .glo "_law_tower", .glo "_law_program", .glo "_law_inner", .glo "_law_part_text", .glo "_law_body_text", .glo "law", .glo "MillError", .glo "BadProgram", .glo "BadText", .glo "DEEDS", .glo "PARTS", .glo "NUMBER_PLACES", .glo "TUPLE_PLACES", .int "MOST_FUNS" (8), .int "MOST_PARAMS" (4), .int "MOST_NAMES" (8), .int "MOST_THINGS" (200), .int "MOST_DEEDS_AROUND" (7), .int "MOST_PARTS" (40), .int "MOST_NUM" (1000000), .int "A_PART" (-1), .int "MOST_FIGURES" (7), .int "MOST_READ_PARTS" (9), .glo "FUN_PLACES", .glo "BEHIND_FUN", .glo "WANTED_FOR", .free "super", .free "isinstance", .free "int", .free "bool"]
def fa_2 : List He.Fa := [.free "list", .free "zip", .free "tuple", .free "len", .free "enumerate", .free "reversed", .free "str", .free "abs", .free "range", .free "sum", .free "min"]
def fa : List He.Fa := fa_0 ++ fa_1 ++ fa_2
def loose_0 : List Str := [("is_number" : Str), ("places_behind" : Str), ("parts_of" : Str), ("bodies_of" : Str), ("check_program" : Str), ("params_of" : Str), ("fun_flaw" : Str), ("body_flaw" : Str), ("things_within" : Str), ("bound_flaw" : Str), ("shape_flaw" : Str), ("number_flaw" : Str), ("takes" : Str), ("written" : Str), ("read" : Str), ("write_all" : Str), ("write_thing" : Str), ("write_bodies" : Str), ("items_of" : Str), ("wants_behind" : Str), ("wants_behind_part" : Str), ("wants_of" : Str), ("is_number_word" : Str), ("is_name_word" : Str), ("is_count_word" : Str), ("item_of" : Str), ("built" : Str), ("build" : Str), ("taken" : Str), ("in_turn" : Str), ("_law_dice" : Str), ("_law_next" : Str), ("_law_like" : Str), ("_law_leaf" : Str), ("_law_part" : Str)]
def loose_1 : List Str := [("_law_one" : Str), ("_law_deed" : Str), ("_law_while" : Str), ("_law_body" : Str), ("_law_things" : Str), ("_law_tower" : Str), ("_law_program" : Str), ("_law_inner" : Str), ("_law_part_text" : Str), ("_law_body_text" : Str), ("MillError" : Str), ("BadProgram" : Str), ("BadText" : Str), ("DEEDS" : Str), ("PARTS" : Str), ("NUMBER_PLACES" : Str), ("TUPLE_PLACES" : Str), ("MOST_FUNS" : Str), ("MOST_PARAMS" : Str), ("MOST_NAMES" : Str), ("MOST_THINGS" : Str), ("MOST_DEEDS_AROUND" : Str), ("MOST_PARTS" : Str), ("MOST_NUM" : Str), ("A_PART" : Str), ("MOST_FIGURES" : Str), ("MOST_READ_PARTS" : Str), ("FUN_PLACES" : Str), ("BEHIND_FUN" : Str), ("WANTED_FOR" : Str)]
def loose : List Str := loose_0 ++ loose_1
def ts : List He.Tab := [(fun K => He.ga K "DEEDS", ["set", "put", "say", "if", "while", "return", "do"]), (fun K => He.ga K "PARTS", ["num", "name", "add", "take", "times", "over", "rest", "less", "same", "not", "get", "call"]), (fun K => He.ga K "WANTED_FOR", ["part", "name", "fun", "parts", "body"])]
def tupsB (K : PySem.W.Frag) : Bool := Bq.modTup K "NUMBER_PLACES" ["n", "name", "fun"] && Bq.modTup K "TUPLE_PLACES" ["body", "parts"] && Bq.modTup K "FUN_PLACES" ["n", "n", "body"]
def tabsB (K : PySem.W.Frag) : Bool := Bq.modTab K "DEEDS" [("set", some ["name", "part"]), ("put", some ["part", "part"]), ("say", some ["part"]), ("if", some ["part", "body", "body"]), ("while", some ["part", "body"]), ("return", some ["part"]), ("do", some ["part"]), ("num", none), ("name", none), ("add", none), ("take", none), ("times", none), ("over", none), ("rest", none), ("less", none), ("same", none), ("not", none), ("get", none), ("call", none)] && Bq.modTab K "PARTS" [("set", none), ("put", none), ("say", none), ("if", none), ("while", none), ("return", none), ("do", none), ("num", some ["n"]), ("name", some ["name"]), ("add", some ["part", "part"]), ("take", some ["part", "part"]), ("times", some ["part", "part"]), ("over", some ["part", "part"]), ("rest", some ["part", "part"]), ("less", some ["part", "part"]), ("same", some ["part", "part"]), ("not", some ["part"]), ("get", some ["part"]), ("call", some ["fun", "parts"])]
def lstsB (K : PySem.W.Frag) : Bool := He.lstB K "BEHIND_FUN" [.str "number", .str "number", .str "end", .str "fun"]
def sdsB (K : PySem.W.Frag) : Bool := He.valsB K (He.ga K "WANTED_FOR") [("part", .str "part"), ("name", .str "number"), ("fun", .str "number"), ("parts", .str "count"), ("body", .str "end")]
structure Cn (w : World) (K : PySem.W.Frag) (mg : Str → Option Value) (base : Heap) : Prop where
  says : He.SaysT fa fn ts w K
  kin : K.In base
  ns : base.Ns mainGlobals mg
  tups : tupsB K = true
  tabs : tabsB K = true
  lsts : lstsB K = true
  sds : sdsB K = true
section
variable {P : Program} {w : World} {K : PySem.W.Frag} {mg : Str → Option Value} {base : Heap}
theorem Cn.m_super (C : Cn w K mg base) : mg "super" = none := He.free_ok C.kin C.ns (C.says.d.fact 66)
theorem Cn.m_isinstance (C : Cn w K mg base) : mg "isinstance" = none := He.free_ok C.kin C.ns (C.says.d.fact 67)
theorem Cn.m_int (C : Cn w K mg base) : mg "int" = none := He.free_ok C.kin C.ns (C.says.d.fact 68)
theorem Cn.m_bool (C : Cn w K mg base) : mg "bool" = none := He.free_ok C.kin C.ns (C.says.d.fact 69)
theorem Cn.m_list (C : Cn w K mg base) : mg "list" = none := He.free_ok C.kin C.ns (C.says.d.fact 70)
theorem Cn.m_zip (C : Cn w K mg base) : mg "zip" = none := He.free_ok C.kin C.ns (C.says.d.fact 71)
theorem Cn.m_tuple (C : Cn w K mg base) : mg "tuple" = none := He.free_ok C.kin C.ns (C.says.d.fact 72)
theorem Cn.m_len (C : Cn w K mg base) : mg "len" = none := He.free_ok C.kin C.ns (C.says.d.fact 73)
theorem Cn.m_enumerate (C : Cn w K mg base) : mg "enumerate" = none := He.free_ok C.kin C.ns (C.says.d.fact 74)
theorem Cn.m_reversed (C : Cn w K mg base) : mg "reversed" = none := He.free_ok C.kin C.ns (C.says.d.fact 75)
theorem Cn.m_str (C : Cn w K mg base) : mg "str" = none := He.free_ok C.kin C.ns (C.says.d.fact 76)
theorem Cn.m_abs (C : Cn w K mg base) : mg "abs" = none := He.free_ok C.kin C.ns (C.says.d.fact 77)
theorem Cn.m_range (C : Cn w K mg base) : mg "range" = none := He.free_ok C.kin C.ns (C.says.d.fact 78)
theorem Cn.m_sum (C : Cn w K mg base) : mg "sum" = none := He.free_ok C.kin C.ns (C.says.d.fact 79)
theorem Cn.m_min (C : Cn w K mg base) : mg "min" = none := He.free_ok C.kin C.ns (C.says.d.fact 80)
theorem Cn.i_MOST_FUNS (C : Cn w K mg base) : ∃ t, mg "MOST_FUNS" = some (.int (8) t) := He.int_ok C.kin C.ns (C.says.d.fact 53)
theorem Cn.i_MOST_PARAMS (C : Cn w K mg base) : ∃ t, mg "MOST_PARAMS" = some (.int (4) t) := He.int_ok C.kin C.ns (C.says.d.fact 54)
theorem Cn.i_MOST_NAMES (C : Cn w K mg base) : ∃ t, mg "MOST_NAMES" = some (.int (8) t) := He.int_ok C.kin C.ns (C.says.d.fact 55)
theorem Cn.i_MOST_THINGS (C : Cn w K mg base) : ∃ t, mg "MOST_THINGS" = some (.int (200) t) := He.int_ok C.kin C.ns (C.says.d.fact 56)
theorem Cn.i_MOST_DEEDS_AROUND (C : Cn w K mg base) : ∃ t, mg "MOST_DEEDS_AROUND" = some (.int (7) t) := He.int_ok C.kin C.ns (C.says.d.fact 57)
theorem Cn.i_MOST_PARTS (C : Cn w K mg base) : ∃ t, mg "MOST_PARTS" = some (.int (40) t) := He.int_ok C.kin C.ns (C.says.d.fact 58)
theorem Cn.i_MOST_NUM (C : Cn w K mg base) : ∃ t, mg "MOST_NUM" = some (.int (1000000) t) := He.int_ok C.kin C.ns (C.says.d.fact 59)
theorem Cn.i_A_PART (C : Cn w K mg base) : ∃ t, mg "A_PART" = some (.int (-1) t) := He.int_ok C.kin C.ns (C.says.d.fact 60)
theorem Cn.i_MOST_FIGURES (C : Cn w K mg base) : ∃ t, mg "MOST_FIGURES" = some (.int (7) t) := He.int_ok C.kin C.ns (C.says.d.fact 61)
theorem Cn.i_MOST_READ_PARTS (C : Cn w K mg base) : ∃ t, mg "MOST_READ_PARTS" = some (.int (9) t) := He.int_ok C.kin C.ns (C.says.d.fact 62)
theorem Cn.g_NUMBER_PLACES (C : Cn w K mg base) : mg "NUMBER_PLACES" = some (.ref (He.ga K "NUMBER_PLACES")) := He.glo_ok C.kin C.ns (C.says.d.fact 51)
theorem Cn.t_NUMBER_PLACES (C : Cn w K mg base) (H : Hp) : SqT K H (He.ga K "NUMBER_PLACES") [V.str "n", V.str "name", V.str "fun"] := Bq.modTup_ok (He.ba (He.ba C.tups).1).1 H
theorem Cn.g_TUPLE_PLACES (C : Cn w K mg base) : mg "TUPLE_PLACES" = some (.ref (He.ga K "TUPLE_PLACES")) := He.glo_ok C.kin C.ns (C.says.d.fact 52)
theorem Cn.t_TUPLE_PLACES (C : Cn w K mg base) (H : Hp) : SqT K H (He.ga K "TUPLE_PLACES") [V.str "body", V.str "parts"] := Bq.modTup_ok (He.ba (He.ba C.tups).1).2 H
theorem Cn.g_FUN_PLACES (C : Cn w K mg base) : mg "FUN_PLACES" = some (.ref (He.ga K "FUN_PLACES")) := He.glo_ok C.kin C.ns (C.says.d.fact 63)
theorem Cn.t_FUN_PLACES (C : Cn w K mg base) (H : Hp) : SqT K H (He.ga K "FUN_PLACES") [V.str "n", V.str "n", V.str "body"] := Bq.modTup_ok (He.ba C.tups).2 H
theorem Cn.g_DEEDS (C : Cn w K mg base) : mg "DEEDS" = some (.ref (He.ga K "DEEDS")) := He.glo_ok C.kin C.ns (C.says.d.fact 49)
theorem Cn.k_DEEDS (C : Cn w K mg base) : ∃ es n, KDict K w (He.ga K "DEEDS") es n := C.says.tab 0
theorem Cn.v_DEEDS (C : Cn w K mg base) : Bq.modTab K "DEEDS" [("set", some ["name", "part"]), ("put", some ["part", "part"]), ("say", some ["part"]), ("if", some ["part", "body", "body"]), ("while", some ["part", "body"]), ("return", some ["part"]), ("do", some ["part"]), ("num", none), ("name", none), ("add", none), ("take", none), ("times", none), ("over", none), ("rest", none), ("less", none), ("same", none), ("not", none), ("get", none), ("call", none)] = true := (He.ba C.tabs).1
theorem Cn.g_PARTS (C : Cn w K mg base) : mg "PARTS" = some (.ref (He.ga K "PARTS")) := He.glo_ok C.kin C.ns (C.says.d.fact 50)
theorem Cn.k_PARTS (C : Cn w K mg base) : ∃ es n, KDict K w (He.ga K "PARTS") es n := C.says.tab 1
theorem Cn.v_PARTS (C : Cn w K mg base) : Bq.modTab K "PARTS" [("set", none), ("put", none), ("say", none), ("if", none), ("while", none), ("return", none), ("do", none), ("num", some ["n"]), ("name", some ["name"]), ("add", some ["part", "part"]), ("take", some ["part", "part"]), ("times", some ["part", "part"]), ("over", some ["part", "part"]), ("rest", some ["part", "part"]), ("less", some ["part", "part"]), ("same", some ["part", "part"]), ("not", some ["part"]), ("get", some ["part"]), ("call", some ["fun", "parts"])] = true := (He.ba C.tabs).2
theorem Cn.g_BEHIND_FUN (C : Cn w K mg base) : mg "BEHIND_FUN" = some (.ref (He.ga K "BEHIND_FUN")) := He.glo_ok C.kin C.ns (C.says.d.fact 64)
theorem Cn.l_BEHIND_FUN (C : Cn w K mg base) (H : Hp) : SqL K H (He.ga K "BEHIND_FUN") [V.str "number", V.str "number", V.str "end", V.str "fun"] := He.lstB_ok C.lsts H
theorem Cn.g_WANTED_FOR (C : Cn w K mg base) : mg "WANTED_FOR" = some (.ref (He.ga K "WANTED_FOR")) := He.glo_ok C.kin C.ns (C.says.d.fact 65)
theorem Cn.k_WANTED_FOR (C : Cn w K mg base) : ∃ es n, KDict K w (He.ga K "WANTED_FOR") es n := C.says.tab 2
theorem Cn.v_WANTED_FOR (C : Cn w K mg base) : He.valsB K (He.ga K "WANTED_FOR") [("part", .str "part"), ("name", .str "number"), ("fun", .str "number"), ("parts", .str "count"), ("body", .str "end")] = true := C.sds
theorem Cn.f_is_number (C : Cn w K mg base) {CX : CXT} {k : Nat} {sp : Sp} (h : ∀ fd, FnP K "is_number" "is_number" s_is_number (He.ga K "is_number") fd → FnOk P w K mg base CX k (He.ga K "is_number") fd ["thing"] sp) : Bq.Fn P w K mg base CX k "is_number" ["thing"] sp := by
  obtain ⟨fd, F⟩ := C.says.d.def_ 0 (d := d_is_number) rfl
  exact ⟨_, fd, h fd F, FunD.bindsN F (fun _ _ _ _ _ _ us hl => match us, hl with | [_], _ => rfl), He.glo_ok C.kin C.ns (C.says.d.fact 0), F.kp⟩
theorem Cn.f_places_behind (C : Cn w K mg base) {CX : CXT} {k : Nat} {sp : Sp} (h : ∀ fd, FnP K "places_behind" "places_behind" s_places_behind (He.ga K "places_behind") fd → FnOk P w K mg base CX k (He.ga K "places_behind") fd ["word"] sp) : Bq.Fn P w K mg base CX k "places_behind" ["word"] sp := by
  obtain ⟨fd, F⟩ := C.says.d.def_ 1 (d := d_places_behind) rfl
  exact ⟨_, fd, h fd F, FunD.bindsN F (fun _ _ _ _ _ _ us hl => match us, hl with | [_], _ => rfl), He.glo_ok C.kin C.ns (C.says.d.fact 1), F.kp⟩
theorem Cn.f_parts_of (C : Cn w K mg base) {CX : CXT} {k : Nat} {sp : Sp} (h : ∀ fd, FnP K "parts_of" "parts_of" s_parts_of (He.ga K "parts_of") fd → FnOk P w K mg base CX k (He.ga K "parts_of") fd ["thing"] sp) : Bq.Fn P w K mg base CX k "parts_of" ["thing"] sp := by
  obtain ⟨fd, F⟩ := C.says.d.def_ 2 (d := d_parts_of) rfl
  exact ⟨_, fd, h fd F, FunD.bindsN F (fun _ _ _ _ _ _ us hl => match us, hl with | [_], _ => rfl), He.glo_ok C.kin C.ns (C.says.d.fact 2), F.kp⟩
theorem Cn.f_bodies_of (C : Cn w K mg base) {CX : CXT} {k : Nat} {sp : Sp} (h : ∀ fd, FnP K "bodies_of" "bodies_of" s_bodies_of (He.ga K "bodies_of") fd → FnOk P w K mg base CX k (He.ga K "bodies_of") fd ["thing"] sp) : Bq.Fn P w K mg base CX k "bodies_of" ["thing"] sp := by
  obtain ⟨fd, F⟩ := C.says.d.def_ 3 (d := d_bodies_of) rfl
  exact ⟨_, fd, h fd F, FunD.bindsN F (fun _ _ _ _ _ _ us hl => match us, hl with | [_], _ => rfl), He.glo_ok C.kin C.ns (C.says.d.fact 3), F.kp⟩
theorem Cn.f_check_program (C : Cn w K mg base) {CX : CXT} {k : Nat} {sp : Sp} (h : ∀ fd, FnP K "check_program" "check_program" s_check_program (He.ga K "check_program") fd → FnOk P w K mg base CX k (He.ga K "check_program") fd ["program"] sp) : Bq.Fn P w K mg base CX k "check_program" ["program"] sp := by
  obtain ⟨fd, F⟩ := C.says.d.def_ 4 (d := d_check_program) rfl
  exact ⟨_, fd, h fd F, FunD.bindsN F (fun _ _ _ _ _ _ us hl => match us, hl with | [_], _ => rfl), He.glo_ok C.kin C.ns (C.says.d.fact 4), F.kp⟩
theorem Cn.f_params_of (C : Cn w K mg base) {CX : CXT} {k : Nat} {sp : Sp} (h : ∀ fd, FnP K "params_of" "params_of" s_params_of (He.ga K "params_of") fd → FnOk P w K mg base CX k (He.ga K "params_of") fd ["fun"] sp) : Bq.Fn P w K mg base CX k "params_of" ["fun"] sp := by
  obtain ⟨fd, F⟩ := C.says.d.def_ 5 (d := d_params_of) rfl
  exact ⟨_, fd, h fd F, FunD.bindsN F (fun _ _ _ _ _ _ us hl => match us, hl with | [_], _ => rfl), He.glo_ok C.kin C.ns (C.says.d.fact 5), F.kp⟩
theorem Cn.f_fun_flaw (C : Cn w K mg base) {CX : CXT} {k : Nat} {sp : Sp} (h : ∀ fd, FnP K "fun_flaw" "fun_flaw" s_fun_flaw (He.ga K "fun_flaw") fd → FnOk P w K mg base CX k (He.ga K "fun_flaw") fd ["number", "fun", "params"] sp) : Bq.Fn P w K mg base CX k "fun_flaw" ["number", "fun", "params"] sp := by
  obtain ⟨fd, F⟩ := C.says.d.def_ 6 (d := d_fun_flaw) rfl
  exact ⟨_, fd, h fd F, FunD.bindsN F (fun _ _ _ _ _ _ us hl => match us, hl with | [_, _, _], _ => rfl), He.glo_ok C.kin C.ns (C.says.d.fact 6), F.kp⟩
theorem Cn.f_body_flaw (C : Cn w K mg base) {CX : CXT} {k : Nat} {sp : Sp} (h : ∀ fd, FnP K "body_flaw" "body_flaw" s_body_flaw (He.ga K "body_flaw") fd → FnOk P w K mg base CX k (He.ga K "body_flaw") fd ["body", "names", "params"] sp) : Bq.Fn P w K mg base CX k "body_flaw" ["body", "names", "params"] sp := by
  obtain ⟨fd, F⟩ := C.says.d.def_ 7 (d := d_body_flaw) rfl
  exact ⟨_, fd, h fd F, FunD.bindsN F (fun _ _ _ _ _ _ us hl => match us, hl with | [_, _, _], _ => rfl), He.glo_ok C.kin C.ns (C.says.d.fact 7), F.kp⟩
theorem Cn.f_things_within (C : Cn w K mg base) {CX : CXT} {k : Nat} {sp : Sp} (h : ∀ fd, FnP K "things_within" "things_within" s_things_within (He.ga K "things_within") fd → FnOk P w K mg base CX k (He.ga K "things_within") fd ["thing", "around"] sp) : Bq.Fn P w K mg base CX k "things_within" ["thing", "around"] sp := by
  obtain ⟨fd, F⟩ := C.says.d.def_ 8 (d := d_things_within) rfl
  exact ⟨_, fd, h fd F, FunD.bindsN F (fun _ _ _ _ _ _ us hl => match us, hl with | [_, _], _ => rfl), He.glo_ok C.kin C.ns (C.says.d.fact 8), F.kp⟩
theorem Cn.f_bound_flaw (C : Cn w K mg base) {CX : CXT} {k : Nat} {sp : Sp} (h : ∀ fd, FnP K "bound_flaw" "bound_flaw" s_bound_flaw (He.ga K "bound_flaw") fd → FnOk P w K mg base CX k (He.ga K "bound_flaw") fd ["at", "around", "wide"] sp) : Bq.Fn P w K mg base CX k "bound_flaw" ["at", "around", "wide"] sp := by
  obtain ⟨fd, F⟩ := C.says.d.def_ 9 (d := d_bound_flaw) rfl
  exact ⟨_, fd, h fd F, FunD.bindsN F (fun _ _ _ _ _ _ us hl => match us, hl with | [_, _, _], _ => rfl), He.glo_ok C.kin C.ns (C.says.d.fact 9), F.kp⟩
theorem Cn.f_shape_flaw (C : Cn w K mg base) {CX : CXT} {k : Nat} {sp : Sp} (h : ∀ fd, FnP K "shape_flaw" "shape_flaw" s_shape_flaw (He.ga K "shape_flaw") fd → FnOk P w K mg base CX k (He.ga K "shape_flaw") fd ["thing", "around"] sp) : Bq.Fn P w K mg base CX k "shape_flaw" ["thing", "around"] sp := by
  obtain ⟨fd, F⟩ := C.says.d.def_ 10 (d := d_shape_flaw) rfl
  exact ⟨_, fd, h fd F, FunD.bindsN F (fun _ _ _ _ _ _ us hl => match us, hl with | [_, _], _ => rfl), He.glo_ok C.kin C.ns (C.says.d.fact 10), F.kp⟩
theorem Cn.f_number_flaw (C : Cn w K mg base) {CX : CXT} {k : Nat} {sp : Sp} (h : ∀ fd, FnP K "number_flaw" "number_flaw" s_number_flaw (He.ga K "number_flaw") fd → FnOk P w K mg base CX k (He.ga K "number_flaw") fd ["thing", "names", "params"] sp) : Bq.Fn P w K mg base CX k "number_flaw" ["thing", "names", "params"] sp := by
  obtain ⟨fd, F⟩ := C.says.d.def_ 11 (d := d_number_flaw) rfl
  exact ⟨_, fd, h fd F, FunD.bindsN F (fun _ _ _ _ _ _ us hl => match us, hl with | [_, _, _], _ => rfl), He.glo_ok C.kin C.ns (C.says.d.fact 11), F.kp⟩
theorem Cn.f_takes (C : Cn w K mg base) {CX : CXT} {k : Nat} {sp : Sp} (h : ∀ fd, FnP K "takes" "takes" s_takes (He.ga K "takes") fd → FnOk P w K mg base CX k (He.ga K "takes") fd ["fun", "many", "params"] sp) : Bq.Fn P w K mg base CX k "takes" ["fun", "many", "params"] sp := by
  obtain ⟨fd, F⟩ := C.says.d.def_ 12 (d := d_takes) rfl
  exact ⟨_, fd, h fd F, FunD.bindsN F (fun _ _ _ _ _ _ us hl => match us, hl with | [_, _, _], _ => rfl), He.glo_ok C.kin C.ns (C.says.d.fact 12), F.kp⟩
theorem Cn.f_written (C : Cn w K mg base) {CX : CXT} {k : Nat} {sp : Sp} (h : ∀ fd, FnP K "written" "written" s_written (He.ga K "written") fd → FnOk P w K mg base CX k (He.ga K "written") fd ["program"] sp) : Bq.Fn P w K mg base CX k "written" ["program"] sp := by
  obtain ⟨fd, F⟩ := C.says.d.def_ 13 (d := d_written) rfl
  exact ⟨_, fd, h fd F, FunD.bindsN F (fun _ _ _ _ _ _ us hl => match us, hl with | [_], _ => rfl), He.glo_ok C.kin C.ns (C.says.d.fact 13), F.kp⟩
theorem Cn.f_read (C : Cn w K mg base) {CX : CXT} {k : Nat} {sp : Sp} (h : ∀ fd, FnP K "read" "read" s_read (He.ga K "read") fd → FnOk P w K mg base CX k (He.ga K "read") fd ["text"] sp) : Bq.Fn P w K mg base CX k "read" ["text"] sp := by
  obtain ⟨fd, F⟩ := C.says.d.def_ 14 (d := d_read) rfl
  exact ⟨_, fd, h fd F, FunD.bindsN F (fun _ _ _ _ _ _ us hl => match us, hl with | [_], _ => rfl), He.glo_ok C.kin C.ns (C.says.d.fact 14), F.kp⟩
theorem Cn.f_write_all (C : Cn w K mg base) {CX : CXT} {k : Nat} {sp : Sp} (h : ∀ fd, FnP K "write_all" "write_all" s_write_all (He.ga K "write_all") fd → FnOk P w K mg base CX k (He.ga K "write_all") fd ["things", "words"] sp) : Bq.Fn P w K mg base CX k "write_all" ["things", "words"] sp := by
  obtain ⟨fd, F⟩ := C.says.d.def_ 15 (d := d_write_all) rfl
  exact ⟨_, fd, h fd F, FunD.bindsN F (fun _ _ _ _ _ _ us hl => match us, hl with | [_, _], _ => rfl), He.glo_ok C.kin C.ns (C.says.d.fact 15), F.kp⟩
theorem Cn.f_write_thing (C : Cn w K mg base) {CX : CXT} {k : Nat} {sp : Sp} (h : ∀ fd, FnP K "write_thing" "write_thing" s_write_thing (He.ga K "write_thing") fd → FnOk P w K mg base CX k (He.ga K "write_thing") fd ["thing", "words"] sp) : Bq.Fn P w K mg base CX k "write_thing" ["thing", "words"] sp := by
  obtain ⟨fd, F⟩ := C.says.d.def_ 16 (d := d_write_thing) rfl
  exact ⟨_, fd, h fd F, FunD.bindsN F (fun _ _ _ _ _ _ us hl => match us, hl with | [_, _], _ => rfl), He.glo_ok C.kin C.ns (C.says.d.fact 16), F.kp⟩
theorem Cn.f_write_bodies (C : Cn w K mg base) {CX : CXT} {k : Nat} {sp : Sp} (h : ∀ fd, FnP K "write_bodies" "write_bodies" s_write_bodies (He.ga K "write_bodies") fd → FnOk P w K mg base CX k (He.ga K "write_bodies") fd ["bodies", "words"] sp) : Bq.Fn P w K mg base CX k "write_bodies" ["bodies", "words"] sp := by
  obtain ⟨fd, F⟩ := C.says.d.def_ 17 (d := d_write_bodies) rfl
  exact ⟨_, fd, h fd F, FunD.bindsN F (fun _ _ _ _ _ _ us hl => match us, hl with | [_, _], _ => rfl), He.glo_ok C.kin C.ns (C.says.d.fact 17), F.kp⟩
theorem Cn.f_items_of (C : Cn w K mg base) {CX : CXT} {k : Nat} {sp : Sp} (h : ∀ fd, FnP K "items_of" "items_of" s_items_of (He.ga K "items_of") fd → FnOk P w K mg base CX k (He.ga K "items_of") fd ["words"] sp) : Bq.Fn P w K mg base CX k "items_of" ["words"] sp := by
  obtain ⟨fd, F⟩ := C.says.d.def_ 18 (d := d_items_of) rfl
  exact ⟨_, fd, h fd F, FunD.bindsN F (fun _ _ _ _ _ _ us hl => match us, hl with | [_], _ => rfl), He.glo_ok C.kin C.ns (C.says.d.fact 18), F.kp⟩
theorem Cn.f_wants_behind (C : Cn w K mg base) {CX : CXT} {k : Nat} {sp : Sp} (h : ∀ fd, FnP K "wants_behind" "wants_behind" s_wants_behind (He.ga K "wants_behind") fd → FnOk P w K mg base CX k (He.ga K "wants_behind") fd ["word", "want"] sp) : Bq.Fn P w K mg base CX k "wants_behind" ["word", "want"] sp := by
  obtain ⟨fd, F⟩ := C.says.d.def_ 19 (d := d_wants_behind) rfl
  exact ⟨_, fd, h fd F, FunD.bindsN F (fun _ _ _ _ _ _ us hl => match us, hl with | [_, _], _ => rfl), He.glo_ok C.kin C.ns (C.says.d.fact 19), F.kp⟩
theorem Cn.f_wants_behind_part (C : Cn w K mg base) {CX : CXT} {k : Nat} {sp : Sp} (h : ∀ fd, FnP K "wants_behind_part" "wants_behind_part" s_wants_behind_part (He.ga K "wants_behind_part") fd → FnOk P w K mg base CX k (He.ga K "wants_behind_part") fd ["word"] sp) : Bq.Fn P w K mg base CX k "wants_behind_part" ["word"] sp := by
  obtain ⟨fd, F⟩ := C.says.d.def_ 20 (d := d_wants_behind_part) rfl
  exact ⟨_, fd, h fd F, FunD.bindsN F (fun _ _ _ _ _ _ us hl => match us, hl with | [_], _ => rfl), He.glo_ok C.kin C.ns (C.says.d.fact 20), F.kp⟩
theorem Cn.f_wants_of (C : Cn w K mg base) {CX : CXT} {k : Nat} {sp : Sp} (h : ∀ fd, FnP K "wants_of" "wants_of" s_wants_of (He.ga K "wants_of") fd → FnOk P w K mg base CX k (He.ga K "wants_of") fd ["word"] sp) : Bq.Fn P w K mg base CX k "wants_of" ["word"] sp := by
  obtain ⟨fd, F⟩ := C.says.d.def_ 21 (d := d_wants_of) rfl
  exact ⟨_, fd, h fd F, FunD.bindsN F (fun _ _ _ _ _ _ us hl => match us, hl with | [_], _ => rfl), He.glo_ok C.kin C.ns (C.says.d.fact 21), F.kp⟩
theorem Cn.f_is_number_word (C : Cn w K mg base) {CX : CXT} {k : Nat} {sp : Sp} (h : ∀ fd, FnP K "is_number_word" "is_number_word" s_is_number_word (He.ga K "is_number_word") fd → FnOk P w K mg base CX k (He.ga K "is_number_word") fd ["word"] sp) : Bq.Fn P w K mg base CX k "is_number_word" ["word"] sp := by
  obtain ⟨fd, F⟩ := C.says.d.def_ 22 (d := d_is_number_word) rfl
  exact ⟨_, fd, h fd F, FunD.bindsN F (fun _ _ _ _ _ _ us hl => match us, hl with | [_], _ => rfl), He.glo_ok C.kin C.ns (C.says.d.fact 22), F.kp⟩
theorem Cn.f_is_name_word (C : Cn w K mg base) {CX : CXT} {k : Nat} {sp : Sp} (h : ∀ fd, FnP K "is_name_word" "is_name_word" s_is_name_word (He.ga K "is_name_word") fd → FnOk P w K mg base CX k (He.ga K "is_name_word") fd ["word"] sp) : Bq.Fn P w K mg base CX k "is_name_word" ["word"] sp := by
  obtain ⟨fd, F⟩ := C.says.d.def_ 23 (d := d_is_name_word) rfl
  exact ⟨_, fd, h fd F, FunD.bindsN F (fun _ _ _ _ _ _ us hl => match us, hl with | [_], _ => rfl), He.glo_ok C.kin C.ns (C.says.d.fact 23), F.kp⟩
theorem Cn.f_is_count_word (C : Cn w K mg base) {CX : CXT} {k : Nat} {sp : Sp} (h : ∀ fd, FnP K "is_count_word" "is_count_word" s_is_count_word (He.ga K "is_count_word") fd → FnOk P w K mg base CX k (He.ga K "is_count_word") fd ["word"] sp) : Bq.Fn P w K mg base CX k "is_count_word" ["word"] sp := by
  obtain ⟨fd, F⟩ := C.says.d.def_ 24 (d := d_is_count_word) rfl
  exact ⟨_, fd, h fd F, FunD.bindsN F (fun _ _ _ _ _ _ us hl => match us, hl with | [_], _ => rfl), He.glo_ok C.kin C.ns (C.says.d.fact 24), F.kp⟩
theorem Cn.f_item_of (C : Cn w K mg base) {CX : CXT} {k : Nat} {sp : Sp} (h : ∀ fd, FnP K "item_of" "item_of" s_item_of (He.ga K "item_of") fd → FnOk P w K mg base CX k (He.ga K "item_of") fd ["word", "want"] sp) : Bq.Fn P w K mg base CX k "item_of" ["word", "want"] sp := by
  obtain ⟨fd, F⟩ := C.says.d.def_ 25 (d := d_item_of) rfl
  exact ⟨_, fd, h fd F, FunD.bindsN F (fun _ _ _ _ _ _ us hl => match us, hl with | [_, _], _ => rfl), He.glo_ok C.kin C.ns (C.says.d.fact 25), F.kp⟩
theorem Cn.f_built (C : Cn w K mg base) {CX : CXT} {k : Nat} {sp : Sp} (h : ∀ fd, FnP K "built" "built" s_built (He.ga K "built") fd → FnOk P w K mg base CX k (He.ga K "built") fd ["items"] sp) : Bq.Fn P w K mg base CX k "built" ["items"] sp := by
  obtain ⟨fd, F⟩ := C.says.d.def_ 26 (d := d_built) rfl
  exact ⟨_, fd, h fd F, FunD.bindsN F (fun _ _ _ _ _ _ us hl => match us, hl with | [_], _ => rfl), He.glo_ok C.kin C.ns (C.says.d.fact 26), F.kp⟩
theorem Cn.f_build (C : Cn w K mg base) {CX : CXT} {k : Nat} {sp : Sp} (h : ∀ fd, FnP K "build" "build" s_build (He.ga K "build") fd → FnOk P w K mg base CX k (He.ga K "build") fd ["word", "pile"] sp) : Bq.Fn P w K mg base CX k "build" ["word", "pile"] sp := by
  obtain ⟨fd, F⟩ := C.says.d.def_ 27 (d := d_build) rfl
  exact ⟨_, fd, h fd F, FunD.bindsN F (fun _ _ _ _ _ _ us hl => match us, hl with | [_, _], _ => rfl), He.glo_ok C.kin C.ns (C.says.d.fact 27), F.kp⟩
theorem Cn.f_taken (C : Cn w K mg base) {CX : CXT} {k : Nat} {sp : Sp} (h : ∀ fd, FnP K "taken" "taken" s_taken (He.ga K "taken") fd → FnOk P w K mg base CX k (He.ga K "taken") fd ["place", "pile"] sp) : Bq.Fn P w K mg base CX k "taken" ["place", "pile"] sp := by
  obtain ⟨fd, F⟩ := C.says.d.def_ 28 (d := d_taken) rfl
  exact ⟨_, fd, h fd F, FunD.bindsN F (fun _ _ _ _ _ _ us hl => match us, hl with | [_, _], _ => rfl), He.glo_ok C.kin C.ns (C.says.d.fact 28), F.kp⟩
theorem Cn.f_in_turn (C : Cn w K mg base) {CX : CXT} {k : Nat} {sp : Sp} (h : ∀ fd, FnP K "in_turn" "in_turn" s_in_turn (He.ga K "in_turn") fd → FnOk P w K mg base CX k (He.ga K "in_turn") fd ["backwards"] sp) : Bq.Fn P w K mg base CX k "in_turn" ["backwards"] sp := by
  obtain ⟨fd, F⟩ := C.says.d.def_ 29 (d := d_in_turn) rfl
  exact ⟨_, fd, h fd F, FunD.bindsN F (fun _ _ _ _ _ _ us hl => match us, hl with | [_], _ => rfl), He.glo_ok C.kin C.ns (C.says.d.fact 29), F.kp⟩
theorem Cn.f_law_dice (C : Cn w K mg base) {CX : CXT} {k : Nat} {sp : Sp} (h : ∀ fd, FnP K "_law_dice" "_law_dice" s_law_dice (He.ga K "_law_dice") fd → FnOk P w K mg base CX k (He.ga K "_law_dice") fd ["_law_script"] sp) : Bq.Fn P w K mg base CX k "_law_dice" ["_law_script"] sp := by
  obtain ⟨fd, F⟩ := C.says.d.def_ 30 (d := d_law_dice) rfl
  exact ⟨_, fd, h fd F, FunD.bindsN F (fun _ _ _ _ _ _ us hl => match us, hl with | [_], _ => rfl), He.glo_ok C.kin C.ns (C.says.d.fact 30), F.kp⟩
theorem Cn.f_law_next (C : Cn w K mg base) {CX : CXT} {k : Nat} {sp : Sp} (h : ∀ fd, FnP K "_law_next" "_law_next" s_law_next (He.ga K "_law_next") fd → FnOk P w K mg base CX k (He.ga K "_law_next") fd ["_law_dice_here", "_law_many"] sp) : Bq.Fn P w K mg base CX k "_law_next" ["_law_dice_here", "_law_many"] sp := by
  obtain ⟨fd, F⟩ := C.says.d.def_ 31 (d := d_law_next) rfl
  exact ⟨_, fd, h fd F, FunD.bindsN F (fun _ _ _ _ _ _ us hl => match us, hl with | [_, _], _ => rfl), He.glo_ok C.kin C.ns (C.says.d.fact 31), F.kp⟩
theorem Cn.f_law_like (C : Cn w K mg base) {CX : CXT} {k : Nat} {sp : Sp} (h : ∀ fd, FnP K "_law_like" "_law_like" s_law_like (He.ga K "_law_like") fd → FnOk P w K mg base CX k (He.ga K "_law_like") fd ["_law_found", "_law_due"] sp) : Bq.Fn P w K mg base CX k "_law_like" ["_law_found", "_law_due"] sp := by
  obtain ⟨fd, F⟩ := C.says.d.def_ 32 (d := d_law_like) rfl
  exact ⟨_, fd, h fd F, FunD.bindsN F (fun _ _ _ _ _ _ us hl => match us, hl with | [_, _], _ => rfl), He.glo_ok C.kin C.ns (C.says.d.fact 32), F.kp⟩
theorem Cn.f_law_leaf (C : Cn w K mg base) {CX : CXT} {k : Nat} {sp : Sp} (h : ∀ fd, FnP K "_law_leaf" "_law_leaf" s_law_leaf (He.ga K "_law_leaf") fd → FnOk P w K mg base CX k (He.ga K "_law_leaf") fd ["_law_d", "_law_names"] sp) : Bq.Fn P w K mg base CX k "_law_leaf" ["_law_d", "_law_names"] sp := by
  obtain ⟨fd, F⟩ := C.says.d.def_ 33 (d := d_law_leaf) rfl
  exact ⟨_, fd, h fd F, FunD.bindsN F (fun _ _ _ _ _ _ us hl => match us, hl with | [_, _], _ => rfl), He.glo_ok C.kin C.ns (C.says.d.fact 33), F.kp⟩
theorem Cn.f_law_part (C : Cn w K mg base) {CX : CXT} {k : Nat} {sp : Sp} (h : ∀ fd, FnP K "_law_part" "_law_part" s_law_part (He.ga K "_law_part") fd → FnOk P w K mg base CX k (He.ga K "_law_part") fd ["_law_d", "_law_w", "_law_room"] sp) : Bq.Fn P w K mg base CX k "_law_part" ["_law_d", "_law_w", "_law_room"] sp := by
  obtain ⟨fd, F⟩ := C.says.d.def_ 34 (d := d_law_part) rfl
  exact ⟨_, fd, h fd F, FunD.bindsN F (fun _ _ _ _ _ _ us hl => match us, hl with | [_, _, _], _ => rfl), He.glo_ok C.kin C.ns (C.says.d.fact 34), F.kp⟩
theorem Cn.f_law_one (C : Cn w K mg base) {CX : CXT} {k : Nat} {sp : Sp} (h : ∀ fd, FnP K "_law_one" "_law_one" s_law_one (He.ga K "_law_one") fd → FnOk P w K mg base CX k (He.ga K "_law_one") fd ["_law_d", "_law_w", "_law_most"] sp) : Bq.Fn P w K mg base CX k "_law_one" ["_law_d", "_law_w", "_law_most"] sp := by
  obtain ⟨fd, F⟩ := C.says.d.def_ 35 (d := d_law_one) rfl
  exact ⟨_, fd, h fd F, FunD.bindsN F (fun _ _ _ _ _ _ us hl => match us, hl with | [_, _, _], _ => rfl), He.glo_ok C.kin C.ns (C.says.d.fact 35), F.kp⟩
theorem Cn.f_law_deed (C : Cn w K mg base) {CX : CXT} {k : Nat} {sp : Sp} (h : ∀ fd, FnP K "_law_deed" "_law_deed" s_law_deed (He.ga K "_law_deed") fd → FnOk P w K mg base CX k (He.ga K "_law_deed") fd ["_law_d", "_law_w", "_law_deep"] sp) : Bq.Fn P w K mg base CX k "_law_deed" ["_law_d", "_law_w", "_law_deep"] sp := by
  obtain ⟨fd, F⟩ := C.says.d.def_ 36 (d := d_law_deed) rfl
  exact ⟨_, fd, h fd F, FunD.bindsN F (fun _ _ _ _ _ _ us hl => match us, hl with | [_, _, _], _ => rfl), He.glo_ok C.kin C.ns (C.says.d.fact 36), F.kp⟩
theorem Cn.f_law_while (C : Cn w K mg base) {CX : CXT} {k : Nat} {sp : Sp} (h : ∀ fd, FnP K "_law_while" "_law_while" s_law_while (He.ga K "_law_while") fd → FnOk P w K mg base CX k (He.ga K "_law_while") fd ["_law_d", "_law_w", "_law_deep"] sp) : Bq.Fn P w K mg base CX k "_law_while" ["_law_d", "_law_w", "_law_deep"] sp := by
  obtain ⟨fd, F⟩ := C.says.d.def_ 37 (d := d_law_while) rfl
  exact ⟨_, fd, h fd F, FunD.bindsN F (fun _ _ _ _ _ _ us hl => match us, hl with | [_, _, _], _ => rfl), He.glo_ok C.kin C.ns (C.says.d.fact 37), F.kp⟩
theorem Cn.f_law_body (C : Cn w K mg base) {CX : CXT} {k : Nat} {sp : Sp} (h : ∀ fd, FnP K "_law_body" "_law_body" s_law_body (He.ga K "_law_body") fd → FnOk P w K mg base CX k (He.ga K "_law_body") fd ["_law_d", "_law_w", "_law_deep"] sp) : Bq.Fn P w K mg base CX k "_law_body" ["_law_d", "_law_w", "_law_deep"] sp := by
  obtain ⟨fd, F⟩ := C.says.d.def_ 38 (d := d_law_body) rfl
  exact ⟨_, fd, h fd F, FunD.bindsN F (fun _ _ _ _ _ _ us hl => match us, hl with | [_, _, _], _ => rfl), He.glo_ok C.kin C.ns (C.says.d.fact 38), F.kp⟩
theorem Cn.f_law_things (C : Cn w K mg base) {CX : CXT} {k : Nat} {sp : Sp} (h : ∀ fd, FnP K "_law_things" "_law_things" s_law_things (He.ga K "_law_things") fd → FnOk P w K mg base CX k (He.ga K "_law_things") fd ["_law_thing"] sp) : Bq.Fn P w K mg base CX k "_law_things" ["_law_thing"] sp := by
  obtain ⟨fd, F⟩ := C.says.d.def_ 39 (d := d_law_things) rfl
  exact ⟨_, fd, h fd F, FunD.bindsN F (fun _ _ _ _ _ _ us hl => match us, hl with | [_], _ => rfl), He.glo_ok C.kin C.ns (C.says.d.fact 39), F.kp⟩
theorem Cn.f_law_tower (C : Cn w K mg base) {CX : CXT} {k : Nat} {sp : Sp} (h : ∀ fd, FnP K "_law_tower" "_law_tower" s_law_tower (He.ga K "_law_tower") fd → FnOk P w K mg base CX k (He.ga K "_law_tower") fd ["_law_d", "_law_body_here"] sp) : Bq.Fn P w K mg base CX k "_law_tower" ["_law_d", "_law_body_here"] sp := by
  obtain ⟨fd, F⟩ := C.says.d.def_ 40 (d := d_law_tower) rfl
  exact ⟨_, fd, h fd F, FunD.bindsN F (fun _ _ _ _ _ _ us hl => match us, hl with | [_, _], _ => rfl), He.glo_ok C.kin C.ns (C.says.d.fact 40), F.kp⟩
theorem Cn.f_law_program (C : Cn w K mg base) {CX : CXT} {k : Nat} {sp : Sp} (h : ∀ fd, FnP K "_law_program" "_law_program" s_law_program (He.ga K "_law_program") fd → FnOk P w K mg base CX k (He.ga K "_law_program") fd ["_law_d"] sp) : Bq.Fn P w K mg base CX k "_law_program" ["_law_d"] sp := by
  obtain ⟨fd, F⟩ := C.says.d.def_ 41 (d := d_law_program) rfl
  exact ⟨_, fd, h fd F, FunD.bindsN F (fun _ _ _ _ _ _ us hl => match us, hl with | [_], _ => rfl), He.glo_ok C.kin C.ns (C.says.d.fact 41), F.kp⟩
theorem Cn.f_law_inner (C : Cn w K mg base) {CX : CXT} {k : Nat} {sp : Sp} (h : ∀ fd, FnP K "_law_inner" "_law_inner" s_law_inner (He.ga K "_law_inner") fd → FnOk P w K mg base CX k (He.ga K "_law_inner") fd ["_law_thing"] sp) : Bq.Fn P w K mg base CX k "_law_inner" ["_law_thing"] sp := by
  obtain ⟨fd, F⟩ := C.says.d.def_ 42 (d := d_law_inner) rfl
  exact ⟨_, fd, h fd F, FunD.bindsN F (fun _ _ _ _ _ _ us hl => match us, hl with | [_], _ => rfl), He.glo_ok C.kin C.ns (C.says.d.fact 42), F.kp⟩
theorem Cn.f_law_part_text (C : Cn w K mg base) {CX : CXT} {k : Nat} {sp : Sp} (h : ∀ fd, FnP K "_law_part_text" "_law_part_text" s_law_part_text (He.ga K "_law_part_text") fd → FnOk P w K mg base CX k (He.ga K "_law_part_text") fd ["_law_part_here"] sp) : Bq.Fn P w K mg base CX k "_law_part_text" ["_law_part_here"] sp := by
  obtain ⟨fd, F⟩ := C.says.d.def_ 43 (d := d_law_part_text) rfl
  exact ⟨_, fd, h fd F, FunD.bindsN F (fun _ _ _ _ _ _ us hl => match us, hl with | [_], _ => rfl), He.glo_ok C.kin C.ns (C.says.d.fact 43), F.kp⟩
theorem Cn.f_law_body_text (C : Cn w K mg base) {CX : CXT} {k : Nat} {sp : Sp} (h : ∀ fd, FnP K "_law_body_text" "_law_body_text" s_law_body_text (He.ga K "_law_body_text") fd → FnOk P w K mg base CX k (He.ga K "_law_body_text") fd ["_law_deeds"] sp) : Bq.Fn P w K mg base CX k "_law_body_text" ["_law_deeds"] sp := by
  obtain ⟨fd, F⟩ := C.says.d.def_ 44 (d := d_law_body_text) rfl
  exact ⟨_, fd, h fd F, FunD.bindsN F (fun _ _ _ _ _ _ us hl => match us, hl with | [_], _ => rfl), He.glo_ok C.kin C.ns (C.says.d.fact 44), F.kp⟩
theorem Cn.f_law (C : Cn w K mg base) {CX : CXT} {k : Nat} {sp : Sp} (h : ∀ fd, FnP K "law" "law" s_law (He.ga K "law") fd → FnOk P w K mg base CX k (He.ga K "law") fd ["_law_script"] sp) : Bq.Fn P w K mg base CX k "law" ["_law_script"] sp := by
  obtain ⟨fd, F⟩ := C.says.d.def_ 45 (d := d_law) rfl
  exact ⟨_, fd, h fd F, FunD.bindsN F (fun _ _ _ _ _ _ us hl => match us, hl with | [_], _ => rfl), He.glo_ok C.kin C.ns (C.says.d.fact 45), F.kp⟩
end
end K3
end

section
set_option maxRecDepth 100000
set_option maxHeartbeats 1000000
open Bq L2
/-- one step of a reading; what is left are side goals and places to think -/
local macro_rules | `(tactic| walk_at "g1") => `(tactic| first
  | with_reducible refine' g_seq ?_ | with_reducible refine' g_asg ?_ | with_reducible refine' g_drop ?_ | with_reducible refine' g_ret ?_ | with_reducible refine' g_ifS ?_ | with_reducible refine' g_asgG ?_
  | ((with_reducible refine' g_var ?hv ?_); (case hv => rfl))
  | with_reducible refine' g_c ?_ | with_reducible refine' g_op ?_ | with_reducible refine' g_un ?_ | with_reducible refine' g_I0 ?_ | with_reducible refine' g_U ?_
  | with_reducible refine' g_test ?_ | with_reducible refine' g_tB ?_ | with_reducible refine Exists.intro _ (And.intro rfl ?_) 
  | ((with_reducible refine' g_andP ?ha ?hb ?_); (case ha => intro R q; walk_at "g"; exact q); (case hb => intro R q; walk_at "g"; exact q))
  | ((with_reducible refine' g_orP ?ha ?hb ?_); (case ha => intro R q; walk_at "g"; exact q); (case hb => intro R q; walk_at "g"; exact q))
  | with_reducible refine' g_and ?_ | with_reducible refine' g_or ?_ | with_reducible refine' g_not ?_
  | with_reducible refine' g_andV ?_ | with_reducible refine' g_orV ?_ | with_reducible refine' g_notV ?_ | with_reducible refine' g_if ?_ | with_reducible refine' g_nil ?_ | with_reducible refine' g_cons ?_
  | with_reducible refine' g_tup ?_ | with_reducible refine' g_lst ?_ | with_reducible refine' g_CB ?_ | with_reducible refine' g_Fn ?_ | with_reducible refine' g_next ?_ | with_reducible refine' g_retN ?_
  | with_reducible refine' g_name ?_ | with_reducible refine' g_sub ?_
  | ((with_reducible refine' g_ixL ?hs ?he ?_); (case hs => walk_at "lk"); (case he => walk_at "at"))
  | ((with_reducible refine' g_ixT ?hs ?he ?_); (case hs => walk_at "lk"); (case he => walk_at "at"))
  | ((with_reducible refine' g_setL ?hs ?he ?_); (case hs => walk_at "hp"); (case he => rfl))
  | ((with_reducible refine' g_app ?hs ?hz ?_); (case hs => walk_at "hp"); (case hz => walk_at "sz"))
  | ((with_reducible refine' ⟨_, _, rfl, Or.inl ?hs, ?_⟩); (case hs => walk_at "lk"))
  | ((with_reducible refine' ⟨_, _, rfl, Or.inr ?hs, ?_⟩); (case hs => walk_at "lk"))
  | with_reducible refine' g_BM ?_ | with_reducible refine' g_BM0 ?_ | ((with_reducible refine' g_tyL ?hs ?_); (case hs => walk_at "lk"))
  | with_reducible refine' g_sl ?_ | with_reducible refine' g_noPart ?_ | with_reducible refine' g_part ?_
  | ((with_reducible refine' g_inT ?hs ?fx ?fs ?_); (case hs => walk_at "lk"); (case fx => rfl); (case fs => rfl))
  | with_reducible refine' g_pair ?_ | with_reducible refine' g_pair0 ?_ | with_reducible refine' g_disp ?_
  | with_reducible refine' g_for ?_ | with_reducible refine' g_tupC ?_ | with_reducible refine' g_lstC ?_ | ((with_reducible refine' g_lens ?_)) | with_reducible refine' g_dg ?_ | with_reducible refine' g_lc ?_ | with_reducible refine' g_rng1 ?_ | with_reducible refine' g_ilist ?_ | with_reducible refine' g_itup ?_
  | ((with_reducible refine' ⟨_, _, rfl, ?hd, ?_⟩); (case hd => walk_at "dg"))
  | ((with_reducible refine' g_eqNil ?hs ?hz ?_); (case hs => walk_at "lk"); (case hz => walk_at "lk"))
  | ((with_reducible refine' g_neNil ?hs ?hz ?_); (case hs => walk_at "lk"); (case hz => walk_at "lk"))
  | with_reducible refine Or.inl ⟨_, rfl, ?_⟩
  | with_reducible refine Or.inr ⟨_, rfl, ?_⟩
  | ((with_reducible refine' g_eq ?hs ?_); (case hs => rfl))
  | ((with_reducible refine' g_ne ?hs ?_); (case hs => rfl))
  | ((with_reducible refine' g_I ?hc ?_); (case hc => walk_at "ar")))
/-- arithmetic's side conditions -/
local macro_rules | `(tactic| walk_at "ar") => `(tactic| (first
  | (show (0 : Int) < _; first | omega | decide) | (show (0 : Int) < _ ∧ _; constructor <;> omega) | (show ¬ (_ : Int) = _; omega) | (show (_ : Int) ≠ _ ∧ _; constructor <;> omega)
  | (show (-(2 ^ 64) < _ ∧ _) ∨ _; (first | (left; constructor <;> omega) | (right; constructor <;> omega))) | (show (0 : Int) ≤ _ ∧ _ ∧ _; refine ⟨by omega, by omega, by decide⟩)))
/-- what stands at an index -/
local macro_rules | `(tactic| walk_at "at") => `(tactic| first | rfl | assumption)
/-- what stands at an address -/
local macro_rules | `(tactic| walk_at "hp") => `(tactic| first | assumption | exact upd_same | ((refine' Eq.trans (upd_ne ?hn) ?hm); (case hm => walk_at "hp"); (case hn => walk_at "ne")))
/-- two places are two -/
local macro_rules | `(tactic| walk_at "ne") => `(tactic| first
  | assumption | exact Ne.symm (by assumption)
  | ((refine' ne_of_none ?ha ?hb); (case hb => assumption); (case ha => walk_at "hp")) | ((refine' Ne.symm (ne_of_none ?ha ?hb)); (case hb => assumption); (case ha => walk_at "hp")))
/-- what a dict tells -/
local macro_rules | `(tactic| walk_at "dg") => `(tactic| first | assumption)
/-- a length -/
local macro_rules | `(tactic| walk_at "sz") => `(tactic| first | (show _ ≤ sizeLine; decide) | (show _ < sizeLine; decide) | assumption | exact szlt (by simp) | exact szle (by simp))
/-- a list or tuple that stands -/
local macro_rules | `(tactic| walk_at "lk") => `(tactic| first | assumption | exact SqL.of (by assumption) | exact SqT.of (by assumption) | exact SqL.of upd_same | exact SqT.of upd_same | (refine' FzL.sq ?hm; (case hm => walk_at "fz")))
/-- a list that nobody writes -/
local macro_rules | `(tactic| walk_at "fz") => `(tactic| first | assumption | ((refine' FzL.uw ?hm ?hx); (case hx => walk_at "hp"); (case hm => walk_at "fz")) | ((refine' FzL.nw ?hm ?hx); (case hx => assumption); (case hm => walk_at "fz")))
/-- as far as it goes by itself -/
local macro_rules | `(tactic| walk_at "g") => `(tactic| repeat walk_at "g1")
/-- the body's reading, its places in short -/
local macro_rules | `(tactic| walk_at "go") => `(tactic| ((try dsimp only [cxOf, Cx.nox, Cx.wish]); walk_at "g"))
namespace K3
open PySem PySem.Spec PyProof.Rows L2 Bq
/-! ### the dice -/
structure DiceAt (K : PySem.W.Frag) (H : Hp) (d sc : Addr) (ns : List Int) (pos mix dig : Int) : Prop where
  h : H d = some (.lst [.ref sc, .int pos, .int mix, .int dig])
  s : FzL K H sc (ns.map V.int)
  n : ns.length ≤ 63
  p0 : 0 ≤ pos
  m0 : 0 ≤ mix
  m1 : mix < 2147483647
  g0 : 0 ≤ dig
def Dice (K : PySem.W.Frag) (H : Hp) (d : Addr) : Prop := ∃ sc ns pos mix dig, DiceAt K H d sc ns pos mix dig
theorem Dice.ch {K : PySem.W.Frag} {S : List Addr} {H H1 : Hp} {d : Addr} (x : Dice K H d) (c : Ch K S H H1) (n : d ∉ S) : Dice K H1 d := by
  obtain ⟨sc, ns, pos, mix, dig, x⟩ := x
  exact ⟨sc, ns, pos, mix, dig, c.up _ _ x.h n, x.s.kt c.kt, x.n, x.p0, x.m0, x.m1, x.g0⟩
theorem Dice.nw {K : PySem.W.Frag} {H : Hp} {d p : Addr} {o : HO} (x : Dice K H d) (n : H p = none) : Dice K (upd H p o) d := x.ch (S := []) (Ch.new n) (by simp)
theorem Dice.ne {K : PySem.W.Frag} {H : Hp} {d p : Addr} (x : Dice K H d) (n : H p = none) : p ≠ d := by
  obtain ⟨_, _, _, _, _, x⟩ := x
  exact (ne_of_none x.h n).symm
theorem notin1 {a b : Addr} (h : a ≠ b) : a ∉ [b] := by simpa using h
/-- the dice written -/
theorem DiceAt.wr {K : PySem.W.Frag} {H : Hp} {d sc : Addr} {ns : List Int} {pos mix dig pos' mix' dig' : Int} (x : DiceAt K H d sc ns pos mix dig) (a : 0 ≤ pos') (b : 0 ≤ mix') (c : mix' < 2147483647) (e : 0 ≤ dig') :
    DiceAt K (upd H d (.lst [.ref sc, .int pos', .int mix', .int dig'])) d sc ns pos' mix' dig' :=
  ⟨upd_same, x.s.kt (Ch.wrL (K := K) (S := [d]) x.h (by simp)).kt, x.n, a, b, c, e⟩
def spNext (K : PySem.W.Frag) : Sp := fun vs H Q _ => ∃ d m, vs = [.ref d, .int m] ∧ Dice K H d ∧ 0 < m ∧ m < 1073741824 ∧
  ∀ H' n, Ch K [d] H H' → Dice K H' d → 0 ≤ n → n < m → Q (.int n) H'
section
variable {P : Program} {w : World} {K : PySem.W.Frag} {mg : Str → Option Value} {base : Heap}
theorem fn_next (C : Cn w K mg base) : Fn P w K mg base CX0 1 "_law_next" ["_law_dice_here", "_law_many"] (spNext K) := C.f_law_next fun fd F => by
  refine F.ok (CX := CX0) sc_law_next (fun vs H Q E h => ?_) (fun cdv A outer s H vs Q E hr h => ?_)
  · obtain ⟨d, m, rfl, _⟩ := h
    rfl
  · obtain ⟨d, m, rfl, ⟨sc, ns, pos, mix, dig, hd⟩, m0, m1, q⟩ := h
    refine ⟨_, PSs.nox (pss_cons (ps_if (pt_cmpR op_gt (pe_ix ix_list (pv 0) pe_int (fun _ _ => rfl)) pe_int (nomark _)) (pss_cons (ps_set (i := 2) sc_law_next.nd rfl (Or.inl rfl) (pe_op op_mod (pe_ix ix_list (pv 0) pe_int (fun _ _ => rfl)) (pv 1)))
      (pss_cons (ps_asg (pe_op op_fdiv (pe_ix ix_list (pv 0) pe_int (fun _ _ => rfl)) (pv 1)) (pg_sub (pv 0) pe_int set_list))
      (pss_one (ps_ret (pv 2))))) pss_nil)
      (pss_cons (ps_asg (pe_op op_add (pe_ix ix_list (pv 0) pe_int (fun _ _ => rfl)) pe_int) (pg_sub (pv 0) pe_int set_list))
      (pss_cons (ps_if (pt_cmpR op_le (pe_ix ix_list (pv 0) pe_int (fun _ _ => rfl)) (pe_callB call_len_seq (by rfl) (C.m_len) PySem.boot_len (pa_cons (pe_ix ix_list (pv 0) pe_int (fun _ _ => rfl)) pa_nil)) (nomark _)) (pss_cons (ps_set (i := 3) sc_law_next.nd rfl (Or.inl rfl) (pe_ix ix_list (pe_ix ix_list (pv 0) pe_int (fun _ _ => rfl)) (pe_op op_sub (pe_ix ix_list (pv 0) pe_int (fun _ _ => rfl)) pe_int) (fun _ _ => rfl)))
      (pss_cons (ps_asg (pe_ifExp (pt_cmpR op_ge (pv 3) (pe_op op_pow pe_int pe_int) (nomark _)) (pe_op op_fdiv (pv 3) (pv 1)) pe_int) (pg_sub (pv 0) pe_int set_list))
      (pss_one (ps_ret (pe_op op_mod (pv 3) (pv 1)))))) pss_nil)
      (pss_cons (ps_asg (pe_op op_mod (pe_op op_mul (pe_ix ix_list (pv 0) pe_int (fun _ _ => rfl)) pe_int) pe_int) (pg_sub (pv 0) pe_int set_list))
      (pss_one (ps_ret (pe_op op_mod (pe_op op_fdiv (pe_ix ix_list (pv 0) pe_int (fun _ _ => rfl)) pe_int) (pv 1)))))))), ?_⟩
    have h0 := hd.h
    have s0 := hd.s
    walk_at "go"
    refine iteB (fun h => ?_) (fun h => ?_)
    · walk_at "g"
      refine q _ _ (Ch.wrL hd.h (by simp)) ⟨_, _, _, _, _, hd.wr (dig' := dig / m) hd.p0 hd.m0 hd.m1 (Int.ediv_nonneg hd.g0 (by omega))⟩ (Int.emod_nonneg _ (by omega)) (Int.emod_lt_of_pos _ m0)
    · walk_at "g"
      refine iteB (fun h2 => ?_) (fun h2 => ?_)
      · have h3 := of_decide_eq_true h2
        rw [List.length_map] at h3
        have h4 := hd.p0
        have h5 : atI (ns.map V.int) (pos + 1 - 1) = some (V.int (ns.getD pos.toNat 0)) := at_of (j := pos.toNat) (by omega) (by
          have h6 : pos.toNat < ns.length := by omega
          rw [List.getElem?_map, List.getElem?_eq_getElem h6, List.getD_eq_getElem?_getD, List.getElem?_eq_getElem h6]
          rfl)
        generalize ns.getD pos.toNat 0 = cell at h5
        walk_at "g"
        have h7 : ∀ g : Int, 0 ≤ g → Dice K (upd (upd H d (.lst [.ref sc, .int (pos + 1), .int mix, .int dig])) d (.lst [.ref sc, .int (pos + 1), .int mix, .int g])) d := fun g hg =>
          ⟨_, _, _, _, _, (hd.wr (pos' := pos + 1) (by omega) hd.m0 hd.m1 hd.g0).wr (by omega) hd.m0 hd.m1 hg⟩
        refine iteB (fun h8 => ?_) (fun h8 => ?_)
        · walk_at "g"
          have h9 : (10 : Int) ^ Int.toNat 18 ≤ cell := of_decide_eq_true h8
          have h10 : (0 : Int) ≤ 10 ^ Int.toNat 18 := by decide
          exact q _ _ ((Ch.wrL hd.h (by simp)).trans (Ch.wrL upd_same (by simp))) (h7 _ (Int.ediv_nonneg (by omega) (by omega))) (Int.emod_nonneg _ (by omega)) (Int.emod_lt_of_pos _ m0)
        · walk_at "g"
          exact q _ _ ((Ch.wrL hd.h (by simp)).trans (Ch.wrL upd_same (by simp))) (h7 0 (by omega)) (Int.emod_nonneg _ (by omega)) (Int.emod_lt_of_pos _ m0)
      · walk_at "g"
        have h4 := hd.p0
        exact q _ _ ((Ch.wrL hd.h (by simp)).trans (Ch.wrL upd_same (by simp))) ⟨_, _, _, _, _, (hd.wr (pos' := pos + 1) (by omega) hd.m0 hd.m1 hd.g0).wr (by omega) (Int.emod_nonneg _ (by omega)) (Int.emod_lt_of_pos _ (by omega)) hd.g0⟩ (Int.emod_nonneg _ (by omega)) (Int.emod_lt_of_pos _ m0)
def spDice (K : PySem.W.Frag) : Sp := fun vs H Q _ => ∃ (sc : Addr) (ns : List Int), vs = [.ref sc] ∧ FzL K H sc (ns.map V.int) ∧ ns.length ≤ 63 ∧ ∀ H' d, Ch K [] H H' → H d = none → Dice K H' d → Q (.ref d) H'
theorem fn_dice (C : Cn w K mg base) : Fn P w K mg base CX0 1 "_law_dice" ["_law_script"] (spDice K) := C.f_law_dice fun fd F => by
  refine F.ok (CX := CX0) sc_law_dice (fun vs H Q E h => ?_) (fun cdv A outer s H vs Q E hr h => ?_)
  · obtain ⟨sc, ns, rfl, _⟩ := h
    rfl
  · obtain ⟨sc, ns, rfl, hs, hl, q⟩ := h
    refine ⟨_, PSs.nox (pss_cons (ps_set (i := 1) sc_law_dice.nd rfl (Or.inl rfl) pe_int)
      (pss_cons (ps_for PassesOwn.never rfl (pi_list (pv 0)) (pg_name (i := 2) sc_law_dice.nd rfl (Or.inl rfl)) (pss_one (ps_set (i := 1) sc_law_dice.nd rfl (Or.inl rfl) (pe_op op_mod (pe_op op_add (pe_op op_add (pe_op op_mul (pv 1) pe_int) (pe_op op_mul (pe_op op_mod (pv 2) pe_int) pe_int)) pe_int) pe_int))))
      (pss_one (ps_ret (pe_lst (pa_cons (pv 0) (pa_cons pe_int (pa_cons (pe_op op_mul (pv 1) (pe_callTy call_int1 (by rfl) (C.m_int) (by decide +kernel) (pa_cons (pe_cmpR op_gt (pe_callB call_len_seq (by rfl) (C.m_len) PySem.boot_len (pa_cons (pv 0) pa_nil)) pe_int (nomark _)) pa_nil))) (pa_cons pe_int pa_nil))))))))), ?_⟩
    walk_at "go"
    have hq := hs.sq
    refine ⟨⟨_, hq⟩, for_list (K := K) (a := sc) (xs := ns.map V.int) (fun i σ H2 => ∃ (m : Int) (v : Option V), σ = [some (.ref sc), some (.int m), v] ∧ H2 = H ∧ 0 ≤ m ∧ m < 2147483647) ⟨0, none, rfl, rfl, by omega, by omega⟩ (fun i σ H2 _ ⟨_, _, _, e, _⟩ => by rw [e]; exact hq) ?_ ?_⟩
    · rintro i y σ H2 hi ⟨m, v, rfl, rfl, m0, m1⟩
      obtain ⟨z, rfl⟩ : ∃ z, y = V.int z := by
        rw [List.getElem?_map] at hi
        cases e : ns[i]? with
        | none => rw [e] at hi; cases hi
        | some z => rw [e] at hi; exact ⟨z, (Option.some.inj hi).symm⟩
      have z0 := Int.emod_nonneg z (show (2147483647 : Int) ≠ 0 by decide)
      have z1 := Int.emod_lt_of_pos z (show (0 : Int) < 2147483647 by decide)
      walk_at "g"
      exact ⟨_, _, rfl, rfl, Int.emod_nonneg _ (by decide), Int.emod_lt_of_pos _ (by decide)⟩
    · rintro σ H2 ⟨m, v, rfl, rfl, m0, m1⟩
      walk_at "g"
      refine ⟨by show 4 ≤ sizeLine; decide, fun p np => ?_⟩
      refine q _ p (Ch.new np) np ⟨sc, ns, 0, _, 0, upd_same, hs.nw np, hl, by omega, ?_, ?_, by omega⟩
      · split <;> omega
      · split <;> omega
/-! ### parts -/
def spLeaf (K : PySem.W.Frag) : Sp := fun vs H Q _ => ∃ d nm, vs = [.ref d, .int nm] ∧ Dice K H d ∧ 0 ≤ nm ∧ nm ≤ 8 ∧
  ∀ H' v p, Ch K [d] H H' → Dice K H' d → Rep K H' v (encP p) → (∀ ps, wfP nm.toNat ps p) → szP p = 1 → Q v H'
theorem fn_leaf (C : Cn w K mg base) : Fn P w K mg base CX0 2 "_law_leaf" ["_law_d", "_law_names"] (spLeaf K) := C.f_law_leaf fun fd F => by
  have F_law_next : Fn P w K mg base CX0 1 "_law_next" ["_law_dice_here", "_law_many"] (spNext K) := fn_next C
  refine F.ok (CX := CX0) sc_law_leaf (fun vs H Q E h => ?_) (fun cdv A outer s H vs Q E hr h => ?_)
  · obtain ⟨d, m, rfl, _⟩ := h
    rfl
  · obtain ⟨d, nm, rfl, hd, m0, m1, q⟩ := h
    refine ⟨_, PSs.nox (Evl.pss_cut (ps_if (PW.pt (pw_and (pt_cmpR op_gt (pv 1) pe_int (nomark _)) (pw_and1 (pt_cmpR op_gt (pe_fn F_law_next (rmm hr) (by rfl) pass0 (pa_cons (pv 0) (pa_cons pe_int pa_nil))) pe_int (nomark _))))) (pss_one (ps_ret (pe_tup (pa_cons pe_str (pa_cons (pe_fn F_law_next (rmm hr) (by rfl) pass0 (pa_cons (pv 0) (pa_cons (pv 1) pa_nil))) pa_nil))))) pss_nil)
      (pss_one (ps_ret (pe_tup (pa_cons pe_str (pa_cons (pe_ix ix_list (pe_lst (pa_cons (pe_fn F_law_next (rmm hr) (by rfl) pass0 (pa_cons (pv 0) (pa_cons pe_int pa_nil))) (pa_cons (pe_op op_sub (pe_fn F_law_next (rmm hr) (by rfl) pass0 (pa_cons (pv 0) (pa_cons pe_int pa_nil))) pe_int) (pa_cons (pe_op op_pow pe_int pe_int) (pa_cons (pe_un un_neg pe_int) pa_nil))))) (pe_ix ix_list (pe_lst (pa_cons pe_int (pa_cons pe_int (pa_cons pe_int (pa_cons pe_int (pa_cons pe_int (pa_cons pe_int (pa_cons pe_int (pa_cons pe_int pa_nil))))))))) (pe_fn F_law_next (rmm hr) (by rfl) pass0 (pa_cons (pv 0) (pa_cons pe_int pa_nil))) (fun _ _ => rfl)) (fun _ _ => rfl)) pa_nil)))))), ?_⟩
    walk_at "go"
    refine g_cut (Mid := fun σ' H' => σ' = start ["_law_d", "_law_names"] [V.ref d, V.int nm] ∧ Ch K [d] H H' ∧ Dice K H' d) ?_ ?_
    · walk_at "g"
      refine iteB (fun h => ?_) (fun h => ?_)
      · have h0 := of_decide_eq_true h
        walk_at "g"
        refine ⟨d, 3, rfl, hd, by decide, by decide, fun H1 n c1 D1 n0 n1 => ?_⟩
        walk_at "g"
        refine iteB (fun h => ?_) (fun h => ?_)
        · walk_at "g"
          refine ⟨d, nm, rfl, D1, h0, by omega, fun H2 k c2 D2 k0 k1 => ?_⟩
          walk_at "g"
          refine ⟨by show 2 ≤ sizeLine; decide, fun p np => ?_⟩
          refine q _ _ (.name k.toNat) ((c1.trans c2).trans (Ch.new np)) (D2.ch (S := []) (Ch.new np) (by simp)) (.tup (SqT.of upd_same) (.cons (.str _) (.cons ?_ .nil))) (fun ps => ?_) rfl
          · have : k = (k.toNat : Int) := by omega
            rw [this]
            exact .int _
          · show k.toNat < nm.toNat
            omega
        · walk_at "g"
          exact ⟨rfl, c1, D1⟩
      · walk_at "g"
        rw [if_neg Bool.false_ne_true]
        walk_at "g"
        exact ⟨rfl, Ch.refl, hd⟩
    · rintro σ' H1 ⟨rfl, c1, D1⟩
      walk_at "g"
      refine ⟨d, 5, rfl, D1, by decide, by decide, fun H2 n c2 D2 n0 n1 => ?_⟩
      walk_at "g"
      refine ⟨d, 70, rfl, D2, by decide, by decide, fun H3 k c3 D3 k0 k1 => ?_⟩
      walk_at "g"
      refine ⟨by show 4 ≤ sizeLine; decide, fun l nl => ?_⟩
      walk_at "g"
      refine ⟨by show 8 ≤ sizeLine; decide, fun l2 nl2 => ?_⟩
      walk_at "g"
      have D5 := (D3.nw nl (o := .lst [.int n, .int (k - 3), .int (10 ^ Int.toNat 6), .int (-1)])).nw nl2 (o := .lst [.int 0, .int 0, .int 0, .int 1, .int 1, .int 1, .int 2, .int 3])
      refine ⟨d, 8, rfl, D5, by decide, by decide, fun H6 j c6 D6 j0 j1 => ?_⟩
      have e2 : H6 l2 = some (.lst [.int 0, .int 0, .int 0, .int 1, .int 1, .int 1, .int 2, .int 3]) := c6.up _ _ (by walk_at "hp") (notin1 ((D3.nw nl).ne nl2))
      have e1 : H6 l = some (.lst [.int n, .int (k - 3), .int (10 ^ Int.toNat 6), .int (-1)]) := c6.up _ _ (by walk_at "hp") (notin1 (D3.ne nl))
      obtain ⟨v, hv, i, rfl, i0, i1⟩ := at_all (P := fun v => ∃ i : Int, v = .int i ∧ 0 ≤ i ∧ i < 4) (xs := [V.int 0, V.int 0, V.int 0, V.int 1, V.int 1, V.int 1, V.int 2, V.int 3]) j0 j1 (by simp)
      obtain ⟨v, hv2, i, rfl, i2, i3⟩ := at_all (P := fun v => ∃ i : Int, v = .int i ∧ -1000000 ≤ i ∧ i ≤ 1000000) (xs := [V.int n, .int (k - 3), .int (10 ^ Int.toNat 6), .int (-1)]) i0 i1 (by
        have : (10 : Int) ^ Int.toNat 6 = 1000000 := by decide
        simp [this]
        omega)
      walk_at "g"
      refine ⟨by show 2 ≤ sizeLine; decide, fun p np => ?_⟩
      exact q _ _ (.num i) ((((c1.trans c2).trans c3).trans (((Ch.new nl).trans (Ch.new nl2)).trans c6)).trans (Ch.new np)) (D6.nw np) (.tup (SqT.of upd_same) (.cons (.str _) (.cons (.int _) .nil))) (fun ps => ⟨i2, i3⟩) rfl
end
end K3
end

section
set_option maxRecDepth 100000
set_option maxHeartbeats 1000000
open Bq L2
/-- one step of a reading; what is left are side goals and places to think -/
local macro_rules | `(tactic| walk_at "g1") => `(tactic| first
  | with_reducible refine' g_seq ?_ | with_reducible refine' g_asg ?_ | with_reducible refine' g_drop ?_ | with_reducible refine' g_ret ?_ | with_reducible refine' g_ifS ?_ | with_reducible refine' g_asgG ?_
  | ((with_reducible refine' g_var ?hv ?_); (case hv => rfl))
  | with_reducible refine' g_c ?_ | with_reducible refine' g_op ?_ | with_reducible refine' g_un ?_ | with_reducible refine' g_I0 ?_ | with_reducible refine' g_U ?_
  | with_reducible refine' g_test ?_ | with_reducible refine' g_tB ?_ | with_reducible refine Exists.intro _ (And.intro rfl ?_) 
  | ((with_reducible refine' g_andP ?ha ?hb ?_); (case ha => intro R q; walk_at "g"; exact q); (case hb => intro R q; walk_at "g"; exact q))
  | ((with_reducible refine' g_orP ?ha ?hb ?_); (case ha => intro R q; walk_at "g"; exact q); (case hb => intro R q; walk_at "g"; exact q))
  | with_reducible refine' g_and ?_ | with_reducible refine' g_or ?_ | with_reducible refine' g_not ?_
  | with_reducible refine' g_andV ?_ | with_reducible refine' g_orV ?_ | with_reducible refine' g_notV ?_ | with_reducible refine' g_if ?_ | with_reducible refine' g_nil ?_ | with_reducible refine' g_cons ?_
  | with_reducible refine' g_tup ?_ | with_reducible refine' g_lst ?_ | with_reducible refine' g_CB ?_ | with_reducible refine' g_Fn ?_ | with_reducible refine' g_next ?_ | with_reducible refine' g_retN ?_
  | with_reducible refine' g_name ?_ | with_reducible refine' g_sub ?_
  | ((with_reducible refine' g_ixL ?hs ?he ?_); (case hs => walk_at "lk"); (case he => walk_at "at"))
  | ((with_reducible refine' g_ixT ?hs ?he ?_); (case hs => walk_at "lk"); (case he => walk_at "at"))
  | ((with_reducible refine' g_setL ?hs ?he ?_); (case hs => walk_at "hp"); (case he => rfl))
  | ((with_reducible refine' g_app ?hs ?hz ?_); (case hs => walk_at "hp"); (case hz => walk_at "sz"))
  | ((with_reducible refine' ⟨_, _, rfl, Or.inl ?hs, ?_⟩); (case hs => walk_at "lk"))
  | ((with_reducible refine' ⟨_, _, rfl, Or.inr ?hs, ?_⟩); (case hs => walk_at "lk"))
  | with_reducible refine' g_BM ?_ | with_reducible refine' g_BM0 ?_ | ((with_reducible refine' g_tyL ?hs ?_); (case hs => walk_at "lk"))
  | with_reducible refine' g_sl ?_ | with_reducible refine' g_noPart ?_ | with_reducible refine' g_part ?_
  | ((with_reducible refine' g_inT ?hs ?fx ?fs ?_); (case hs => walk_at "lk"); (case fx => rfl); (case fs => rfl))
  | with_reducible refine' g_pair ?_ | with_reducible refine' g_pair0 ?_ | with_reducible refine' g_disp ?_
  | with_reducible refine' g_for ?_ | with_reducible refine' g_tupC ?_ | with_reducible refine' g_lstC ?_ | ((with_reducible refine' g_lens ?_)) | with_reducible refine' g_dg ?_ | with_reducible refine' g_lc ?_ | with_reducible refine' g_rng1 ?_ | with_reducible refine' g_ilist ?_ | with_reducible refine' g_itup ?_
  | ((with_reducible refine' ⟨_, _, rfl, ?hd, ?_⟩); (case hd => walk_at "dg"))
  | ((with_reducible refine' g_eqNil ?hs ?hz ?_); (case hs => walk_at "lk"); (case hz => walk_at "lk"))
  | ((with_reducible refine' g_neNil ?hs ?hz ?_); (case hs => walk_at "lk"); (case hz => walk_at "lk"))
  | with_reducible refine Or.inl ⟨_, rfl, ?_⟩
  | with_reducible refine Or.inr ⟨_, rfl, ?_⟩
  | ((with_reducible refine' g_eq ?hs ?_); (case hs => rfl))
  | ((with_reducible refine' g_ne ?hs ?_); (case hs => rfl))
  | ((with_reducible refine' g_I ?hc ?_); (case hc => walk_at "ar")))
/-- arithmetic's side conditions -/
local macro_rules | `(tactic| walk_at "ar") => `(tactic| (first
  | (show (0 : Int) < _; first | omega | decide) | (show (0 : Int) < _ ∧ _; constructor <;> omega) | (show ¬ (_ : Int) = _; omega) | (show (_ : Int) ≠ _ ∧ _; constructor <;> omega)
  | (show (-(2 ^ 64) < _ ∧ _) ∨ _; (first | (left; constructor <;> omega) | (right; constructor <;> omega))) | (show (0 : Int) ≤ _ ∧ _ ∧ _; refine ⟨by omega, by omega, by decide⟩)))
/-- what stands at an index -/
local macro_rules | `(tactic| walk_at "at") => `(tactic| first | rfl | assumption)
/-- what stands at an address -/
local macro_rules | `(tactic| walk_at "hp") => `(tactic| first | assumption | exact upd_same | ((refine' Eq.trans (upd_ne ?hn) ?hm); (case hm => walk_at "hp"); (case hn => walk_at "ne")))
/-- two places are two -/
local macro_rules | `(tactic| walk_at "ne") => `(tactic| first
  | assumption | exact Ne.symm (by assumption)
  | ((refine' ne_of_none ?ha ?hb); (case hb => assumption); (case ha => walk_at "hp")) | ((refine' Ne.symm (ne_of_none ?ha ?hb)); (case hb => assumption); (case ha => walk_at "hp")))
/-- what a dict tells -/
local macro_rules | `(tactic| walk_at "dg") => `(tactic| first | assumption)
/-- a length -/
local macro_rules | `(tactic| walk_at "sz") => `(tactic| first | (show _ ≤ sizeLine; decide) | (show _ < sizeLine; decide) | assumption | exact szlt (by simp) | exact szle (by simp))
/-- a list or tuple that stands -/
local macro_rules | `(tactic| walk_at "lk") => `(tactic| first | assumption | exact SqL.of (by assumption) | exact SqT.of (by assumption) | exact SqL.of upd_same | exact SqT.of upd_same | (refine' FzL.sq ?hm; (case hm => walk_at "fz")))
/-- a list that nobody writes -/
local macro_rules | `(tactic| walk_at "fz") => `(tactic| first | assumption | ((refine' FzL.uw ?hm ?hx); (case hx => walk_at "hp"); (case hm => walk_at "fz")) | ((refine' FzL.nw ?hm ?hx); (case hx => assumption); (case hm => walk_at "fz")))
/-- as far as it goes by itself -/
local macro_rules | `(tactic| walk_at "g") => `(tactic| repeat walk_at "g1")
/-- the body's reading, its places in short -/
local macro_rules | `(tactic| walk_at "go") => `(tactic| ((try dsimp only [cxOf, Cx.nox, Cx.wish]); walk_at "g"))
namespace K3
open PySem PySem.Spec PyProof.Rows L2 Bq
section
variable {P : Program} {w : World} {K : PySem.W.Frag} {mg : Str → Option Value} {base : Heap}
/-! ### what the making of parts stands on -/
structure GI (K : PySem.W.Frag) (H : Hp) (d wa r : Addr) (nm : Int) (pl : Addr) (ps : List Nat) (rm : Int) : Prop where
  dc : Dice K H d
  wd : H wa = some (.dK [(Sum.inr "names", .int nm), (Sum.inr "params", .ref pl)])
  hpl : H pl = some (.lst (ps.map fun n => V.int (n : Nat)))
  hrm : H r = some (.lst [.int rm])
  dr : d ≠ r
  pd : pl ≠ d
  pr : pl ≠ r
  n0 : 0 ≤ nm
  n8 : nm ≤ 8
  l8 : ps.length ≤ 8
  p4 : ∀ n ∈ ps, n ≤ 4
section
variable {H H1 : Hp} {d wa r pl p : Addr} {nm rm rm' : Int} {ps : List Nat} {o : HO}
theorem GI.wne (g : GI K H d wa r nm pl ps rm) : wa ∉ [d, r] := by
  obtain ⟨_, _, _, _, _, x⟩ := g.dc
  have h1 := ne_of g.wd x.h (by intro z; cases z)
  have h2 := ne_of g.wd g.hrm (by intro z; cases z)
  simp [h1, h2]
theorem GI.ch (g : GI K H d wa r nm pl ps rm) (c : Ch K [d, r] H H1) (D : Dice K H1 d) (e : H1 r = some (.lst [.int rm'])) : GI K H1 d wa r nm pl ps rm' :=
  ⟨D, c.up _ _ g.wd g.wne, c.up _ _ g.hpl (by simp [g.pd, g.pr]), e, g.dr, g.pd, g.pr, g.n0, g.n8, g.l8, g.p4⟩
/-- only the dice were thrown -/
theorem GI.cd (g : GI K H d wa r nm pl ps rm) (c : Ch K [d] H H1) (D : Dice K H1 d) : GI K H1 d wa r nm pl ps rm := g.ch (c.mono (by simp)) D (c.up _ _ g.hrm (by simpa using g.dr.symm))
theorem GI.nw (g : GI K H d wa r nm pl ps rm) (n : H p = none) : GI K (upd H p o) d wa r nm pl ps rm := g.cd (Ch.new n) (g.dc.nw n)
theorem GI.wr (g : GI K H d wa r nm pl ps rm) : GI K (upd H r (.lst [.int rm'])) d wa r nm pl ps rm' :=
  g.ch (Ch.wrL g.hrm (by simp)) (g.dc.ch (S := [r]) (Ch.wrL g.hrm (by simp)) (by simpa using g.dr)) upd_same
theorem GI.wrD {D : Addr} {u : HO} {rm0 : Int} (g : GI K H d wa r nm pl ps rm) (g0 : GI K H1 d wa r nm pl ps rm0) (n : H1 D = none) (h : H D = some u) (ht : notT u = true) : GI K (upd H D o) d wa r nm pl ps rm := by
  have c : Ch K [D] H (upd H D o) := Ch.wr h ht (by simp)
  have hd := g0.dc.ne n
  have hr := ne_of_none g0.hrm n
  have hw := ne_of_none g0.wd n
  have hp := ne_of_none g0.hpl n
  exact ⟨g.dc.ch c (by simpa using hd.symm), c.up _ _ g.wd (by simpa using hw), c.up _ _ g.hpl (by simpa using hp), c.up _ _ g.hrm (by simpa using hr), g.dr, g.pd, g.pr, g.n0, g.n8, g.l8, g.p4⟩
theorem GI.names (g : GI K H d wa r nm pl ps rm) : DGet H wa (.str "names") (some (.int nm)) := by
  have h := DGet.k (k := Sum.inr "names") g.wd
  exact h
theorem GI.params (g : GI K H d wa r nm pl ps rm) : DGet H wa (.str "params") (some (.ref pl)) := by
  have h := DGet.k (k := Sum.inr "params") g.wd
  exact h
end
def spPart (K : PySem.W.Frag) (b : Int) : Sp := fun vs H Q _ => ∃ d wa r nm pl ps rm, vs = [.ref d, .ref wa, .ref r] ∧ GI K H d wa r nm pl ps rm ∧ rm ≤ b ∧
  ∀ H' v p rm', Ch K [d, r] H H' → GI K H' d wa r nm pl ps rm' → rm' ≤ rm - 1 → Rep K H' v (encP p) → wfP nm.toNat ps p → (dpP p : Int) ≤ b + 1 → Q v H'
theorem wOps : ∀ v ∈ [V.str "add", V.str "take", V.str "times", V.str "less", V.str "same", V.str "over", V.str "rest", V.str "over"], ∃ o : Op, v = .str o.str := by
  intro v hv
  simp only [List.mem_cons, List.not_mem_nil, or_false] at hv
  rcases hv with rfl | rfl | rfl | rfl | rfl | rfl | rfl | rfl
  · exact ⟨.add, rfl⟩
  · exact ⟨.take, rfl⟩
  · exact ⟨.times, rfl⟩
  · exact ⟨.less, rfl⟩
  · exact ⟨.same, rfl⟩
  · exact ⟨.over, rfl⟩
  · exact ⟨.rest, rfl⟩
  · exact ⟨.over, rfl⟩
theorem part_step (C : Cn w K mg base) (k : Nat) (hk : 2 ≤ k) (b : Int) (hb0 : 0 ≤ b) {sp : Sp} (F_law_part : Fn P w K mg base CX0 k "_law_part" ["_law_d", "_law_w", "_law_room"] sp)
    (hsp : 1 ≤ b → ∀ vs H Q E, spPart K b vs H Q E → sp vs H Q E) : Fn P w K mg base CX0 (k + 1) "_law_part" ["_law_d", "_law_w", "_law_room"] (spPart K (b + 1)) := C.f_law_part fun fd F => by
  have F_law_next : Fn P w K mg base CX0 1 "_law_next" ["_law_dice_here", "_law_many"] (spNext K) := fn_next C
  have F_law_leaf : Fn P w K mg base CX0 2 "_law_leaf" ["_law_d", "_law_names"] (spLeaf K) := fn_leaf C
  refine F.ok (CX := CX0) sc_law_part (fun vs H Q E h => ?_) (fun cdv A outer s H vs Q E hr h => ?_)
  · obtain ⟨d, wa, r, nm, pl, ps, rm, rfl, _⟩ := h
    rfl
  · obtain ⟨d, wa, r, nm, pl, ps, rm, rfl, g, hb, q⟩ := h
    have hu := hu_of (hr.mono (show 1 ≤ k by omega))
    have hu0 : ∀ {A : Around}, A.units + 1 < cLine → A.units < cLine := fun h => by omega
    replace hu0 := hu0 hu
    refine ⟨_, PSs.nox (pss_cons (ps_asg (pe_op op_sub (pe_ix ix_list (pv 2) pe_int (fun _ _ => rfl)) pe_int) (pg_sub (pv 2) pe_int set_list))
      (pss_cons (ps_set (i := 3) sc_law_part.nd rfl (Or.inl rfl) (pe_fn F_law_next (rmm hr) (by rfl) pass0 (pa_cons (pv 0) (pa_cons pe_int pa_nil))))
      (Evl.pss_cut (ps_if (PW.pt (pw_and (pt_cmpR op_eq (pv 3) pe_int (nomark _)) (pw_and1 (pt_cmpR op_eq (pe_fn F_law_next (rmm hr) (by rfl) pass0 (pa_cons (pv 0) (pa_cons pe_int pa_nil))) pe_int (nomark _))))) (pss_one (ps_ret (pe_tup (pa_cons pe_str (pa_cons (pe_tup (pa_cons pe_str (pa_cons (pe_op op_pow pe_int pe_int) pa_nil))) (pa_cons (pe_tup (pa_cons pe_str (pa_cons (pe_ix ix_list (pe_lst (pa_cons pe_int (pa_cons (pe_un un_neg pe_int) (pa_cons pe_int pa_nil)))) (pe_fn F_law_next (rmm hr) (by rfl) pass0 (pa_cons (pv 0) (pa_cons pe_int pa_nil))) (fun _ _ => rfl)) pa_nil))) pa_nil)))))) pss_nil)
      (pss_cons (ps_if (PW.pt (pw_or (pt_cmpR op_lt (pe_ix ix_list (pv 2) pe_int (fun _ _ => rfl)) pe_int (nomark _)) (pw_or1 (pt_cmpR op_lt (pv 3) pe_int (nomark _))))) (pss_one (ps_ret (pe_fn F_law_leaf (rmm hr) (by rfl) pass0 (pa_cons (pv 0) (pa_cons (pe_dget hu (pv 1) pe_str (fun _ _ => rfl)) pa_nil))))) pss_nil)
      (pss_cons (ps_if (pt_cmpR op_lt (pv 3) pe_int (nomark _)) (pss_cons (ps_set (i := 4) sc_law_part.nd rfl (Or.inl rfl) (pe_lst (pa_cons pe_str (pa_cons pe_str (pa_cons pe_str (pa_cons pe_str (pa_cons pe_str (pa_cons pe_str (pa_cons pe_str (pa_cons pe_str pa_nil))))))))))
      (pss_cons (ps_set (i := 5) sc_law_part.nd rfl (Or.inl rfl) (pe_fn F_law_part (rmm hr) (by rfl) pass0 (pa_cons (pv 0) (pa_cons (pv 1) (pa_cons (pv 2) pa_nil)))))
      (pss_one (ps_ret (pe_tup (pa_cons (pe_ix ix_list (pv 4) (pe_fn F_law_next (rmm hr) (by rfl) pass0 (pa_cons (pv 0) (pa_cons pe_int pa_nil))) (fun _ _ => rfl)) (pa_cons (pv 5) (pa_cons (pe_fn F_law_part (rmm hr) (by rfl) pass0 (pa_cons (pv 0) (pa_cons (pv 1) (pa_cons (pv 2) pa_nil)))) pa_nil)))))))) pss_nil)
      (pss_cons (ps_if (pt_cmpR op_eq (pv 3) pe_int (nomark _)) (pss_one (ps_ret (pe_tup (pa_cons pe_str (pa_cons (pe_fn F_law_part (rmm hr) (by rfl) pass0 (pa_cons (pv 0) (pa_cons (pv 1) (pa_cons (pv 2) pa_nil)))) pa_nil))))) pss_nil)
      (pss_cons (ps_if (pt_mid (PW.pt (pw_or (pt_cmpR op_eq (pv 3) pe_int (nomark _)) (pw_or1 (pt_cmpR (op_eqNil hu0) (pe_dget hu (pv 1) pe_str (fun _ _ => rfl)) (pe_lst pa_nil) (nomark _)))))) (pss_one (ps_ret (pe_tup (pa_cons pe_str (pa_cons (pe_ix ix_list (pe_lst (pa_cons (pe_fn F_law_leaf (rmm hr) (by rfl) pass0 (pa_cons (pv 0) (pa_cons pe_int pa_nil))) (pa_cons (pe_fn F_law_part (rmm hr) (by rfl) pass0 (pa_cons (pv 0) (pa_cons (pv 1) (pa_cons (pv 2) pa_nil)))) pa_nil))) (pe_callTy call_int1 (by rfl) (C.m_int) (by decide +kernel) (pa_cons (pe_cmpR op_eq (pe_fn F_law_next (rmm hr) (by rfl) pass0 (pa_cons (pv 0) (pa_cons pe_int pa_nil))) pe_int (nomark _)) pa_nil)) (fun _ _ => rfl)) pa_nil))))) pss_nil)
      (pss_cons (ps_set (i := 6) sc_law_part.nd rfl (Or.inl rfl) (pe_fn F_law_next (rmm hr) (by rfl) pass0 (pa_cons (pv 0) (pa_cons (pe_callB call_len_seq (by rfl) (C.m_len) PySem.boot_len (pa_cons (pe_dget hu (pv 1) pe_str (fun _ _ => rfl)) pa_nil)) pa_nil))))
      (pss_one (ps_ret (pe_tup (pa_cons pe_str (pa_cons (pv 6) (pa_cons (pe_callTy call_tuple_of (by rfl) (C.m_tuple) (by decide +kernel) (pa_cons (pe_lc (own := [("_law_k", 7)]) (g := gName 7) (tt := tYes) rfl sc_law_part.nd (pi_range1 (by rfl) (C.m_range) (pa_cons (pe_ix ix_list (pe_dget hu (pv 1) pe_str (fun _ _ => rfl)) (pv 6) (fun _ _ => rfl)) pa_nil)) (blkOk_by (own := [("_law_k", 7)]) (N := ["_law_d", "_law_w", "_law_room", "_law_way", "_law_words", "_law_one_here", "_law_fun", "_law_k"]) (sc := defScope s_law_part) (by decide +kernel)) (fun _ _ _ _ _ => pg_name (i := 7) sc_law_part.nd rfl (Or.inl rfl)) (fun _ _ _ _ _ => pts_nil) (fun _ _ _ _ _ => (pe_fn F_law_part (rmm hr) (by rfl) pass0 (pa_cons (pv 0) (pa_cons (pv 1) (pa_cons (pv 2) pa_nil)))))) pa_nil)) pa_nil)))))))))))))), ?_⟩
    have h0 := g.hrm
    walk_at "go"
    have c0 : Ch K [d, r] H (upd H r (.lst [.int (rm - 1)])) := Ch.wrL g.hrm (by simp)
    have g0 : GI K (upd H r (.lst [.int (rm - 1)])) d wa r nm pl ps (rm - 1) := g.wr
    refine ⟨d, 12, rfl, g0.dc, by decide, by decide, fun H1 way c1 D1 w0 w1 => ?_⟩
    have g1 := g0.cd c1 D1
    replace c1 := c0.trans (c1.mono (S' := [d, r]) (by simp))
    clear c0 g0
    walk_at "g"
    refine g_cut (Mid := fun σ' H' => σ' = [some (.ref d), some (.ref wa), some (.ref r), some (.int way), none, none, none, none] ∧ Ch K [d, r] H H' ∧ GI K H' d wa r nm pl ps (rm - 1)) ?_ ?_
    · walk_at "g"
      refine iteB (fun h => ?_) (fun h => ?_)
      · walk_at "g"
        refine ⟨d, 6, rfl, g1.dc, by decide, by decide, fun H2 n c2 D2 n0 n1 => ?_⟩
        have g2 := g1.cd c2 D2
        replace c2 := c1.trans (c2.mono (S' := [d, r]) (by simp))
        walk_at "g"
        refine iteB (fun h => ?_) (fun h => ?_)
        · walk_at "g"
          refine ⟨by show 2 ≤ sizeLine; decide, fun p np => ?_⟩
          walk_at "g"
          refine ⟨by show 3 ≤ sizeLine; decide, fun l nl => ?_⟩
          walk_at "g"
          refine ⟨d, 3, rfl, ((g2.nw np).nw nl).dc, by decide, by decide, fun H3 j c3 D3 j0 j1 => ?_⟩
          have g3 := ((g2.nw np).nw nl).cd c3 D3
          have e3 : H3 l = some (.lst [.int 1000, .int (-1000), .int 1001]) := c3.up _ _ (by walk_at "hp") (notin1 ((g2.nw np).dc.ne nl))
          have ep : SqT K H3 p [.str "num", .int (10 ^ Int.toNat 6)] := c3.kt.t _ _ (SqT.of (by walk_at "hp"))
          obtain ⟨v, hv, i, rfl, i0, i1⟩ := at_all (P := fun v => ∃ i : Int, v = .int i ∧ -1000 ≤ i ∧ i ≤ 1001) (xs := [V.int 1000, V.int (-1000), V.int 1001]) j0 j1 (by simp)
          walk_at "g"
          refine ⟨by show 2 ≤ sizeLine; decide, fun p2 np2 => ?_⟩
          walk_at "g"
          refine ⟨by show 3 ≤ sizeLine; decide, fun p3 np3 => ?_⟩
          have c4 : Ch K [d, r] H (upd (upd H3 p2 (.tup [.str "num", .int i])) p3 (.tup [.str "times", .ref p, .ref p2])) := (((c2.trans (Ch.new np)).trans (Ch.new nl)).trans (c3.mono (by simp))).trans ((Ch.new np2).trans (Ch.new np3))
          have e6 : (10 : Int) ^ Int.toNat 6 = 1000000 := by decide
          refine q _ _ (.bin .times (.num (10 ^ Int.toNat 6)) (.num i)) _ c4 ((g3.nw np2).nw np3) (Int.le_refl _) ?_ ⟨by rw [e6]; constructor <;> decide, by constructor <;> omega⟩ (by simp only [dpP]; omega)
          have k34 : Kt K H3 (upd (upd H3 p2 (.tup [.str "num", .int i])) p3 (.tup [.str "times", .ref p, .ref p2])) := ((Ch.new (S := []) np2).trans (Ch.new np3)).kt
          exact .tup (SqT.of upd_same) (.cons (.str _) (.cons (.tup (k34.t _ _ ep) (.cons (.str _) (.cons (.int _) .nil))) (.cons (.tup (SqT.of (by walk_at "hp")) (.cons (.str _) (.cons (.int _) .nil))) .nil)))
        · walk_at "g"
          exact ⟨rfl, c2, g2⟩
      · rw [if_neg Bool.false_ne_true]
        walk_at "g"
        exact ⟨rfl, c1, g1⟩
    · clear c1 g1 D1 H1
      rintro _ H1 ⟨rfl, c1, g1⟩
      have h1 := g1.hrm
      walk_at "g"
      refine iteB (fun h => ?_) (fun h => ?_)
      · have hn := g1.names
        walk_at "g"
        refine ⟨d, nm, rfl, g1.dc, g1.n0, g1.n8, fun H2 v p c2 D2 rp wf z => ?_⟩
        exact q _ v p (rm - 1) (c1.trans (c2.mono (by simp))) (g1.cd c2 D2) (Int.le_refl _) rp (wf ps) (by have := dpP_sz p; omega)
      · have h2 : 2 ≤ rm - 1 ∧ 2 ≤ way := by
          simp only [Bool.or_eq_false_iff, decide_eq_false_iff_not] at h
          omega
        have hsp' := hsp (by omega)
        clear h
        walk_at "g"
        refine iteB (fun h => ?_) (fun h => ?_)
        · walk_at "g"
          refine ⟨by show 8 ≤ sizeLine; decide, fun l nl => ?_⟩
          have lr : l ∉ [d, r] := by simp [g1.dc.ne nl, (ne_of_none g1.hrm nl).symm]
          walk_at "g"
          refine hsp' _ _ _ _ ⟨d, wa, r, nm, pl, ps, rm - 1, rfl, g1.nw nl, by omega, fun H2 v1 p1 rm2 c2 g2 r2 rep1 wf1 dp1 => ?_⟩
          walk_at "g"
          refine ⟨d, 8, rfl, g2.dc, by decide, by decide, fun H3 j c3 D3 j0 j1 => ?_⟩
          have e3 := c3.up _ _ (c2.up _ _ (upd_same (H := H1) (a := l)) lr) (by simp [g1.dc.ne nl])
          obtain ⟨v, hv, o, rfl⟩ := at_all (xs := [V.str "add", V.str "take", V.str "times", V.str "less", V.str "same", V.str "over", V.str "rest", V.str "over"]) j0 j1 wOps
          walk_at "g"
          refine hsp' _ _ _ _ ⟨d, wa, r, nm, pl, ps, rm2, rfl, g2.cd c3 D3, by omega, fun H4 v2 p2 rm4 c4 g4 r4 rep2 wf2 dp2 => ?_⟩
          walk_at "g"
          refine ⟨by show 3 ≤ sizeLine; decide, fun p np => ?_⟩
          have c34 := (c3.mono (S' := [d, r]) (by simp)).trans (c4.trans (Ch.new np (o := .tup [.str o.str, v1, v2])))
          exact q _ _ (.bin o p1 p2) rm4 (c1.trans ((Ch.new nl).trans (c2.trans c34))) (g4.nw np) (by omega)
            (.tup (SqT.of upd_same) (.cons (.str _) (.cons (rep1.kt c34.kt) (.cons (rep2.kt (Ch.new (S := []) np).kt) .nil)))) ⟨wf1, wf2⟩ (by simp only [dpP]; omega)
        · walk_at "g"
          refine iteB (fun h => ?_) (fun h => ?_)
          · walk_at "g"
            refine hsp' _ _ _ _ ⟨d, wa, r, nm, pl, ps, rm - 1, rfl, g1, by omega, fun H2 v1 p1 rm2 c2 g2 r2 rep1 wf1 dp1 => ?_⟩
            walk_at "g"
            refine ⟨by show 2 ≤ sizeLine; decide, fun p np => ?_⟩
            exact q _ _ (.nt p1) rm2 (c1.trans (c2.trans (Ch.new np))) (g2.nw np) (by omega) (.tup (SqT.of upd_same) (.cons (.str _) (.cons (rep1.kt (Ch.new (S := []) np).kt) .nil))) wf1 (by simp only [dpP]; omega)
          · walk_at "g"
            refine g_mid (fun b H' => (b = false → ps ≠ []) ∧ Ch K [d, r] H H' ∧ GI K H' d wa r nm pl ps (rm - 1)) ?_ ?_
            · walk_at "g"
              refine iteB (fun h => ?_) (fun h => ?_)
              · exact ⟨fun z => (by cases z), c1, g1⟩
              · have hn := g1.params
                have hp := g1.hpl
                walk_at "g"
                refine ⟨Nat.zero_le _, fun l nl => ?_⟩
                have hp2 := (g1.nw nl (o := .lst [])).hpl
                have hl2 : SqL K (upd H1 l (.lst [])) l [] := SqL.of upd_same
                refine g_eqNil (SqL.of hp2) hl2 ?_
                walk_at "g"
                refine ⟨fun z e => ?_, c1.trans (Ch.new nl), g1.nw nl⟩
                rw [e] at z
                cases z
            · clear c1 g1 h1 H1
              rintro bb H1 ⟨hne, c1, g1⟩
              refine iteB (fun h => ?_) (fun h => ?_)
              · walk_at "g"
                refine ⟨d, 0, rfl, g1.dc, by decide, by decide, fun H2 v1 p1 c2 D2 rep1 wf1 z1 => ?_⟩
                have g2 := g1.cd c2 D2
                walk_at "g"
                refine hsp' _ _ _ _ ⟨d, wa, r, nm, pl, ps, rm - 1, rfl, g2, by omega, fun H3 v2 p2 rm3 c3 g3 r3 rep2 wf2 dp2 => ?_⟩
                walk_at "g"
                refine ⟨by show 2 ≤ sizeLine; decide, fun l nl => ?_⟩
                walk_at "g"
                refine ⟨d, 3, rfl, (g3.nw nl).dc, by decide, by decide, fun H4 j c4 D4 j0 j1 => ?_⟩
                have g4 := (g3.nw nl).cd c4 D4
                have e4 := c4.up _ _ (upd_same (H := H3) (a := l)) (notin1 (g3.dc.ne nl))
                walk_at "g"
                have c14 := (c2.mono (S' := [d, r]) (by simp)).trans (c3.trans ((Ch.new nl).trans (c4.mono (by simp))))
                have k4 : Kt K H2 H4 := (c3.trans ((Ch.new nl).trans (c4.mono (by simp)))).kt
                have k5 : Kt K H3 H4 := ((Ch.new (S := [d]) nl).trans c4).kt
                have fin : ∀ v p, Rep K H4 v (encP p) → wfP nm.toNat ps p → (dpP p : Int) ≤ b + 1 → tNil [some (V.ref d), some (V.ref wa), some (V.ref r), some (V.int way), none, none, none, none] H4 fun xs H2 => (V.str "get" :: v :: xs).length ≤ sizeLine ∧
                    ∀ p, H2 p = none → Q (V.ref p) (upd H2 p (.tup (V.str "get" :: v :: xs))) := by
                  intro v pp rep wf dp
                  walk_at "g"
                  refine ⟨by show 2 ≤ sizeLine; decide, fun p np => ?_⟩
                  exact q _ _ (.get pp) rm3 (c1.trans (c14.trans (Ch.new np))) (g4.nw np) (by omega) (.tup (SqT.of upd_same) (.cons (.str _) (.cons (rep.kt (Ch.new (S := []) np).kt) .nil))) wf (by simp only [dpP]; omega)
                by_cases hj : j = 2
                · subst hj
                  refine g_ixL (SqL.of e4) (v := v2) rfl ?_
                  exact fin _ _ (rep2.kt k5) wf2 dp2
                · have e5 : (if decide (V.int j = V.int 2) = true then (1 : Int) else 0) = 0 := by
                    rw [if_neg]
                    simpa using hj
                  rw [e5]
                  refine g_ixL (SqL.of e4) (v := v1) rfl ?_
                  exact fin _ _ (rep1.kt k4) (wfP_mono (Nat.zero_le _) (wf1 ps)) (by have := dpP_sz p1; omega)
              · have hn := g1.params
                have hp := g1.hpl
                walk_at "g"
                have hne' : ps ≠ [] := hne h
                have pl0 : 0 < ps.length := List.length_pos_iff.mpr hne'
                have pl8 := g1.l8
                rw [List.length_map]
                refine ⟨d, (ps.length : Nat), rfl, g1.dc, by omega, by omega, fun H2 j c2 D2 j0 j1 => ?_⟩
                have g2 := g1.cd c2 D2
                have hn2 := g2.params
                have hp2 := g2.hpl
                have hjn : j.toNat < ps.length := by omega
                have e2 : atI (ps.map fun n => V.int (n : Nat)) j = some (V.int (ps[j.toNat] : Nat)) := at_of (j := j.toNat) (by omega) (by rw [List.getElem?_map, List.getElem?_eq_getElem hjn]; rfl)
                have p4 := g2.p4 _ (List.getElem_mem hjn)
                walk_at "g"
                refine ⟨by omega, by omega, fun D nD => ?_⟩
                have Dn : D ∉ [d, r] := by simp [g2.dc.ne nD, (ne_of_none g2.hrm nD).symm]
                refine lcR1 (fun i H' => Ch K [d, r] H2 H' ∧ ∃ rm', GI K H' d wa r nm pl ps rm' ∧ rm' ≤ rm - 1 ∧ ∃ vs qs, H' D = some (.lst vs) ∧ vs.length = i ∧ qs.length = i ∧ Reps K H' vs (encPs qs) ∧ wfPs nm.toNat ps qs ∧ (dpPs qs : Int) ≤ b + 1)
                  ⟨Ch.new nD, rm - 1, g2.nw nD, Int.le_refl _, [], [], upd_same, rfl, rfl, .nil, trivial, by simp only [dpPs]; omega⟩ ?_ ?_
                · rintro i H3 hi ⟨c3, rm3, g3, r3, vs, qs, eD, lv, lq, reps, wfs, dps⟩
                  walk_at "g"
                  refine hsp' _ _ _ _ ⟨d, wa, r, nm, pl, ps, rm3, rfl, g3, by omega, fun H4 v p rm4 c4 g4 r4 rep wf dp => ?_⟩
                  have eD4 := c4.up _ _ eD Dn
                  have k4 : Kt K H4 (upd H4 D (.lst (vs ++ [v]))) := (Ch.wrL (S := [D]) eD4 (by simp)).kt
                  refine ⟨vs, eD4, Nat.lt_of_le_of_lt (show vs.length ≤ 8 by omega) (by decide), Ch.wrN (c3.trans c4) nD eD4 rfl, rm4, g4.wrD g2 nD eD4 rfl, by omega, vs ++ [v], qs ++ [p], upd_same, by simp [lv], by simp [lq], ?_, wfPs_app wfs ⟨wf, trivial⟩, by rw [dpPs_app]; simp only [dpPs]; omega⟩
                  rw [encPs_app]
                  exact ((reps.kt c4.kt).kt k4).append (.cons (rep.kt k4) .nil)
                · rintro H3 ⟨c3, rm3, g3, r3, vs, qs, eD, lv, lq, reps, wfs, dps⟩
                  walk_at "g"
                  refine ⟨D, vs, rfl, .inl ⟨SqL.of eD, fun l nl => ?_⟩⟩
                  walk_at "g"
                  refine ⟨by show 3 ≤ sizeLine; decide, fun p np => ?_⟩
                  have kk : Kt K H3 (upd (upd H3 l (.tup vs)) p (.tup [.str "call", .int j, .ref l])) := ((Ch.new (S := []) nl).trans (Ch.new np)).kt
                  have ej : j = (j.toNat : Int) := by omega
                  refine q _ _ (.call j.toNat qs) rm3 (c1.trans ((c2.mono (by simp)).trans (c3.trans ((Ch.new nl).trans (Ch.new np))))) ((g3.nw nl).nw np) (by omega) ?_ ⟨?_, wfs⟩ (by simp only [dpP]; omega)
                  · refine .tup (SqT.of upd_same) (.cons (.str _) (.cons ?_ (.cons (.tup (SqT.of (by walk_at "hp")) (reps.kt kk)) .nil)))
                    rw [ej]
                    exact .int _
                  · rw [List.getElem?_eq_getElem hjn, lq]
                    exact congrArg some (by omega)
/-- parts with room for so many more -/
theorem fn_part (C : Cn w K mg base) : ∀ n : Nat, Fn P w K mg base CX0 (n + 3) "_law_part" ["_law_d", "_law_w", "_law_room"] (spPart K ((n : Int) + 1))
  | 0 => part_step C 2 (Nat.le_refl _) 0 (by omega) (sp := fun _ _ _ _ => False) (C.f_law_part fun fd F => ⟨fun _ _ _ _ h => h.elim, fun _ _ _ _ _ _ _ _ _ _ _ _ _ h => h.elim⟩) fun h => by omega
  | n + 1 => by
    have h := part_step C (n + 3) (by omega) ((n : Int) + 1) (by omega) (fn_part C n) fun _ _ _ _ _ h => h
    rwa [show ((n + 1 : Nat) : Int) + 1 = (n : Int) + 1 + 1 by omega]
end
end K3
end

section
set_option maxRecDepth 100000
set_option maxHeartbeats 1000000
open Bq L2
/-- one step of a reading; what is left are side goals and places to think -/
local macro_rules | `(tactic| walk_at "g1") => `(tactic| first
  | with_reducible refine' g_seq ?_ | with_reducible refine' g_asg ?_ | with_reducible refine' g_drop ?_ | with_reducible refine' g_ret ?_ | with_reducible refine' g_ifS ?_ | with_reducible refine' g_asgG ?_
  | ((with_reducible refine' g_var ?hv ?_); (case hv => rfl))
  | with_reducible refine' g_c ?_ | with_reducible refine' g_op ?_ | with_reducible refine' g_un ?_ | with_reducible refine' g_I0 ?_ | with_reducible refine' g_U ?_
  | with_reducible refine' g_test ?_ | with_reducible refine' g_tB ?_ | with_reducible refine Exists.intro _ (And.intro rfl ?_) 
  | ((with_reducible refine' g_andP ?ha ?hb ?_); (case ha => intro R q; walk_at "g"; exact q); (case hb => intro R q; walk_at "g"; exact q))
  | ((with_reducible refine' g_orP ?ha ?hb ?_); (case ha => intro R q; walk_at "g"; exact q); (case hb => intro R q; walk_at "g"; exact q))
  | with_reducible refine' g_and ?_ | with_reducible refine' g_or ?_ | with_reducible refine' g_not ?_
  | with_reducible refine' g_andV ?_ | with_reducible refine' g_orV ?_ | with_reducible refine' g_notV ?_ | with_reducible refine' g_if ?_ | with_reducible refine' g_nil ?_ | with_reducible refine' g_cons ?_
  | with_reducible refine' g_tup ?_ | with_reducible refine' g_lst ?_ | with_reducible refine' g_CB ?_ | with_reducible refine' g_Fn ?_ | with_reducible refine' g_next ?_ | with_reducible refine' g_retN ?_
  | with_reducible refine' g_name ?_ | with_reducible refine' g_sub ?_
  | ((with_reducible refine' g_ixL ?hs ?he ?_); (case hs => walk_at "lk"); (case he => walk_at "at"))
  | ((with_reducible refine' g_ixT ?hs ?he ?_); (case hs => walk_at "lk"); (case he => walk_at "at"))
  | ((with_reducible refine' g_setL ?hs ?he ?_); (case hs => walk_at "hp"); (case he => rfl))
  | ((with_reducible refine' g_app ?hs ?hz ?_); (case hs => walk_at "hp"); (case hz => walk_at "sz"))
  | ((with_reducible refine' ⟨_, _, rfl, Or.inl ?hs, ?_⟩); (case hs => walk_at "lk"))
  | ((with_reducible refine' ⟨_, _, rfl, Or.inr ?hs, ?_⟩); (case hs => walk_at "lk"))
  | with_reducible refine' g_BM ?_ | with_reducible refine' g_BM0 ?_ | ((with_reducible refine' g_tyL ?hs ?_); (case hs => walk_at "lk"))
  | with_reducible refine' g_sl ?_ | with_reducible refine' g_noPart ?_ | with_reducible refine' g_part ?_
  | ((with_reducible refine' g_inT ?hs ?fx ?fs ?_); (case hs => walk_at "lk"); (case fx => rfl); (case fs => rfl))
  | with_reducible refine' g_pair ?_ | with_reducible refine' g_pair0 ?_ | with_reducible refine' g_disp ?_
  | with_reducible refine' g_for ?_ | with_reducible refine' g_tupC ?_ | with_reducible refine' g_lstC ?_ | ((with_reducible refine' g_lens ?_)) | with_reducible refine' g_dg ?_ | with_reducible refine' g_lc ?_ | with_reducible refine' g_rng1 ?_ | with_reducible refine' g_ilist ?_ | with_reducible refine' g_itup ?_
  | ((with_reducible refine' ⟨_, _, rfl, ?hd, ?_⟩); (case hd => walk_at "dg"))
  | ((with_reducible refine' g_eqNil ?hs ?hz ?_); (case hs => walk_at "lk"); (case hz => walk_at "lk"))
  | ((with_reducible refine' g_neNil ?hs ?hz ?_); (case hs => walk_at "lk"); (case hz => walk_at "lk"))
  | with_reducible refine Or.inl ⟨_, rfl, ?_⟩
  | with_reducible refine Or.inr ⟨_, rfl, ?_⟩
  | ((with_reducible refine' g_eq ?hs ?_); (case hs => rfl))
  | ((with_reducible refine' g_ne ?hs ?_); (case hs => rfl))
  | ((with_reducible refine' g_I ?hc ?_); (case hc => walk_at "ar")))
/-- arithmetic's side conditions -/
local macro_rules | `(tactic| walk_at "ar") => `(tactic| (first
  | (show (0 : Int) < _; first | omega | decide) | (show (0 : Int) < _ ∧ _; constructor <;> omega) | (show ¬ (_ : Int) = _; omega) | (show (_ : Int) ≠ _ ∧ _; constructor <;> omega)
  | (show (-(2 ^ 64) < _ ∧ _) ∨ _; (first | (left; constructor <;> omega) | (right; constructor <;> omega))) | (show (0 : Int) ≤ _ ∧ _ ∧ _; refine ⟨by omega, by omega, by decide⟩)))
/-- what stands at an index -/
local macro_rules | `(tactic| walk_at "at") => `(tactic| first | rfl | assumption)
/-- what stands at an address -/
local macro_rules | `(tactic| walk_at "hp") => `(tactic| first | assumption | exact upd_same | ((refine' Eq.trans (upd_ne ?hn) ?hm); (case hm => walk_at "hp"); (case hn => walk_at "ne")))
/-- two places are two -/
local macro_rules | `(tactic| walk_at "ne") => `(tactic| first
  | assumption | exact Ne.symm (by assumption)
  | ((refine' ne_of_none ?ha ?hb); (case hb => assumption); (case ha => walk_at "hp")) | ((refine' Ne.symm (ne_of_none ?ha ?hb)); (case hb => assumption); (case ha => walk_at "hp")))
/-- what a dict tells -/
local macro_rules | `(tactic| walk_at "dg") => `(tactic| first | assumption)
/-- a length -/
local macro_rules | `(tactic| walk_at "sz") => `(tactic| first | (show _ ≤ sizeLine; decide) | (show _ < sizeLine; decide) | assumption | exact szlt (by simp) | exact szle (by simp))
/-- a list or tuple that stands -/
local macro_rules | `(tactic| walk_at "lk") => `(tactic| first | assumption | exact SqL.of (by assumption) | exact SqT.of (by assumption) | exact SqL.of upd_same | exact SqT.of upd_same | (refine' FzL.sq ?hm; (case hm => walk_at "fz")))
/-- a list that nobody writes -/
local macro_rules | `(tactic| walk_at "fz") => `(tactic| first | assumption | ((refine' FzL.uw ?hm ?hx); (case hx => walk_at "hp"); (case hm => walk_at "fz")) | ((refine' FzL.nw ?hm ?hx); (case hx => assumption); (case hm => walk_at "fz")))
/-- as far as it goes by itself -/
local macro_rules | `(tactic| walk_at "g") => `(tactic| repeat walk_at "g1")
/-- the body's reading, its places in short -/
local macro_rules | `(tactic| walk_at "go") => `(tactic| ((try dsimp only [cxOf, Cx.nox, Cx.wish]); walk_at "g"))
namespace K3
open PySem PySem.Spec PyProof.Rows L2 Bq
section
variable {P : Program} {w : World} {K : PySem.W.Frag} {mg : Str → Option Value} {base : Heap}
/-! ### counting things -/
def spThings (K : PySem.W.Frag) (n : Nat) : Sp := fun vs H Q _ => ∃ v t, vs = [v] ∧ Rep K H v t ∧ dpT t ≤ n ∧ ∀ H', Ch K [] H H' → Q (.int (thT t : Nat)) H'
theorem thTs_take : ∀ (ts : List T) (i : Nat) (t : T), ts[i]? = some t → thTs (ts.take (i + 1)) = thTs (ts.take i) + thT t
  | [], i, t, h => by simp at h
  | a :: r, 0, t, h => by
    have : a = t := Option.some.inj h
    subst this
    simp [thTs]
  | a :: r, i + 1, t, h => by
    have ih := thTs_take r i t h
    show thT a + thTs (r.take (i + 1)) = thT a + thTs (r.take i) + thT t
    rw [ih]
    omega
theorem dpTs_get : ∀ (ts : List T) (i : Nat) (t : T), ts[i]? = some t → dpT t ≤ dpTs ts
  | [], i, t, h => by simp at h
  | a :: r, 0, t, h => by
    have : a = t := Option.some.inj h
    subst this
    simp only [dpTs]
    omega
  | a :: r, i + 1, t, h => by
    have ih := dpTs_get r i t h
    simp only [dpTs]
    omega
theorem sum_thT : ∀ ts : List T, (ts.map fun t => ((thT t : Nat) : Int)).sum = (thTs ts : Nat)
  | [] => rfl
  | a :: r => by
    rw [List.map_cons, List.sum_cons, sum_thT r]
    simp only [thTs]
    omega
theorem things_step (C : Cn w K mg base) (k : Nat) (n : Nat) {sp : Sp} (F_law_things : Fn P w K mg base CX0 k "_law_things" ["_law_thing"] sp)
    (hsp : ∀ m, n = m + 1 → ∀ vs H Q E, spThings K m vs H Q E → sp vs H Q E) : Fn P w K mg base CX0 (k + 1) "_law_things" ["_law_thing"] (spThings K n) := C.f_law_things fun fd F => by
  refine F.ok (CX := CX0) sc_law_things (fun vs H Q E h => ?_) (fun cdv A outer s H vs Q E hr h => ?_)
  · obtain ⟨v, t, rfl, _⟩ := h
    rfl
  · obtain ⟨v, t, rfl, rep, hn, q⟩ := h
    refine ⟨_, PSs.nox (pss_cons (ps_if (pt_not (pt_val (pe_callB call_isi (by rfl) (C.m_isinstance) (by decide +kernel) (pa_cons (pv 0) (pa_cons (pe_bty "tuple" (by rfl) (C.m_tuple) (by decide +kernel)) pa_nil))))) (pss_one (ps_ret pe_int)) pss_nil)
      (pss_cons (ps_set (i := 1) sc_law_things.nd rfl (Or.inl rfl) (pe_callTy call_int1 (by rfl) (C.m_int) (by decide +kernel) (pa_cons (pe_mid (pe_and (pe_cmpR op_gt (pe_callB call_len_seq (by rfl) (C.m_len) PySem.boot_len (pa_cons (pv 0) pa_nil)) pe_int (nomark _)) (pe_one (pe_callB call_isi (by rfl) (C.m_isinstance) (by decide +kernel) (pa_cons (pe_ix ix_tup (pv 0) pe_int (fun _ _ => rfl)) (pa_cons (pe_bty "str" (by rfl) (C.m_str) (by decide +kernel)) pa_nil)))))) pa_nil)))
      (pss_one (ps_ret (pe_op op_add (pv 1) (pe_callB (cr_sum rfl) (by rfl) (C.m_sum) (by decide +kernel) (pa_cons (pe_lc (own := [("_law_one_here", 2)]) (g := gName 2) (tt := tYes) rfl sc_law_things.nd (pi_tup (pe_lens (pv 0))) (blkOk_by (own := [("_law_one_here", 2)]) (N := ["_law_thing", "_law_own", "_law_one_here"]) (sc := defScope s_law_things) (by decide +kernel)) (fun _ _ _ _ _ => pg_name (i := 2) sc_law_things.nd rfl (Or.inl rfl)) (fun _ _ _ _ _ => pts_nil) (fun _ _ _ _ _ => (pe_fn F_law_things (rmm hr) (by rfl) pass0 (pa_cons (pv 2) pa_nil)))) pa_nil))))))), ?_⟩
    walk_at "go"
    refine g_isi rep.ty (kit_tuple t) ?_
    walk_at "g"
    have q0 : (∀ ts, t ≠ .tup ts) → thT t = 0 := by
      intro h
      cases t with
      | int i => rfl
      | str i => rfl
      | tup ts => exact absurd rfl (h ts)
    refine iteB (fun h => ?_) (fun h => ?_)
    · walk_at "g"
      have h0 : thT t = 0 := q0 fun ts e => by rw [e] at h; cases h
      have h1 := q H Ch.refl
      rw [h0] at h1
      exact h1
    · walk_at "g"
      cases t with
      | int i => cases h
      | str i => cases h
      | tup ts =>
        clear h q0
        obtain ⟨a, vs, rfl, hS, reps⟩ := rep.tupI
        walk_at "g"
        refine g_midE (fun v H' => v = .bl (decide (ownT ts = 1)) ∧ H' = H) ?_ ?_
        · walk_at "g"
          refine iteB (fun h => ?_) (fun h => ?_)
          · have h1 := of_decide_eq_true h
            cases reps with
            | nil => simp at h1
            | cons r0 rr =>
              walk_at "g"
              refine g_ixT hS (atI_nat (j := 0) (List.getElem?_cons_zero)) ?_
              walk_at "g"
              refine g_isi r0.ty (kit_str _) ?_
              cases r0 with
              | int i => exact ⟨rfl, rfl⟩
              | str i => exact ⟨rfl, rfl⟩
              | tup _ _ => exact ⟨rfl, rfl⟩
          · cases reps with
            | nil => exact ⟨rfl, rfl⟩
            | cons r0 rr =>
              have h1 := of_decide_eq_false h
              exact absurd (by simp only [List.length_cons]; omega) h1
        · rintro _ H0 ⟨rfl, e0⟩
          rw [e0]
          clear e0 H0
          walk_at "g"
          intro LL
          have lv : vs.length ≤ sizeLine := LL.1 a vs hS
          have own1 : ownT ts ≤ 1 := by
            cases ts with
            | nil => exact Nat.zero_le _
            | cons t0 r0 => cases t0 <;> first | exact Nat.le_refl _ | exact Nat.zero_le _
          refine ⟨a, rfl, ⟨vs, hS⟩, fun D nD => ?_⟩
          refine lcT1 (xs := vs) (fun i H' => Ch K [] H H' ∧ H' D = some (.lst ((ts.take i).map fun t => V.int ((thT t : Nat) : Int)))) ⟨Ch.new nD, upd_same⟩ (fun i H' _ p => p.1.sqT hS) ?_ ?_
          · rintro i x H3 hx ⟨c3, eD⟩
            obtain ⟨t, ht, rt⟩ := reps.get hx
            have d1 := dpTs_get _ _ _ ht
            have hn2 : dpTs ts + 1 ≤ n := by simp only [dpT] at hn; omega
            have il : i < vs.length := (List.getElem?_eq_some_iff.mp hx).1
            walk_at "g"
            refine hsp (n - 1) (by omega) _ _ _ _ ⟨x, t, rfl, rt.kt c3.kt, by omega, fun H4 c4 => ?_⟩
            have eD4 := c4.up _ _ eD (by simp)
            refine ⟨_, eD4, ?_, Ch.wrN (c3.trans c4) nD eD4 rfl, ?_⟩
            · rw [List.length_map, List.length_take]
              omega
            · rw [upd_same, List.take_add_one, ht, List.map_append]
              rfl
          · rintro H3 ⟨c3, eD⟩
            have et : ts.take vs.length = ts := List.take_of_length_le (by rw [reps.len]; exact Nat.le_refl _)
            rw [et] at eD
            walk_at "g"
            refine ⟨D, ts.map fun t => ((thT t : Nat) : Int), rfl, ?_, ?_⟩
            · rw [List.map_map]
              exact SqL.of eD
            · rw [sum_thT]
              walk_at "g"
              have h1 := q H3 c3
              have e9 : (if decide (ownT ts = 1) = true then (1 : Int) else 0) + (thTs ts : Nat) = ((thT (.tup ts) : Nat) : Int) := by
                simp only [thT, decide_eq_true_eq]
                split <;> omega
              rw [← e9] at h1
              exact h1
theorem fn_things (C : Cn w K mg base) : ∀ n : Nat, Fn P w K mg base CX0 (n + 1) "_law_things" ["_law_thing"] (spThings K n)
  | 0 => things_step C 0 0 (sp := fun _ _ _ _ => False) (C.f_law_things fun fd F => ⟨fun _ _ _ _ h => h.elim, fun _ _ _ _ _ _ _ _ _ _ _ _ _ h => h.elim⟩) fun m h => by omega
  | n + 1 => things_step C (n + 1) (n + 1) (fn_things C n) fun m e _ _ _ _ h => by
    have : m = n := by omega
    rw [← this]
    exact h
end
end K3
end

section
set_option maxRecDepth 100000
set_option maxHeartbeats 1000000
open Bq L2
/-- one step of a reading; what is left are side goals and places to think -/
local macro_rules | `(tactic| walk_at "g1") => `(tactic| first
  | with_reducible refine' g_seq ?_ | with_reducible refine' g_asg ?_ | with_reducible refine' g_drop ?_ | with_reducible refine' g_ret ?_ | with_reducible refine' g_ifS ?_ | with_reducible refine' g_asgG ?_
  | ((with_reducible refine' g_var ?hv ?_); (case hv => rfl))
  | with_reducible refine' g_c ?_ | with_reducible refine' g_op ?_ | with_reducible refine' g_un ?_ | with_reducible refine' g_I0 ?_ | with_reducible refine' g_U ?_
  | with_reducible refine' g_test ?_ | with_reducible refine' g_tB ?_ | with_reducible refine Exists.intro _ (And.intro rfl ?_) 
  | ((with_reducible refine' g_andP ?ha ?hb ?_); (case ha => intro R q; walk_at "g"; exact q); (case hb => intro R q; walk_at "g"; exact q))
  | ((with_reducible refine' g_orP ?ha ?hb ?_); (case ha => intro R q; walk_at "g"; exact q); (case hb => intro R q; walk_at "g"; exact q))
  | with_reducible refine' g_and ?_ | with_reducible refine' g_or ?_ | with_reducible refine' g_not ?_
  | with_reducible refine' g_andV ?_ | with_reducible refine' g_orV ?_ | with_reducible refine' g_notV ?_ | with_reducible refine' g_if ?_ | with_reducible refine' g_nil ?_ | with_reducible refine' g_cons ?_
  | with_reducible refine' g_tup ?_ | with_reducible refine' g_lst ?_ | with_reducible refine' g_CB ?_ | with_reducible refine' g_Fn ?_ | with_reducible refine' g_next ?_ | with_reducible refine' g_retN ?_
  | with_reducible refine' g_name ?_ | with_reducible refine' g_sub ?_
  | ((with_reducible refine' g_ixL ?hs ?he ?_); (case hs => walk_at "lk"); (case he => walk_at "at"))
  | ((with_reducible refine' g_ixT ?hs ?he ?_); (case hs => walk_at "lk"); (case he => walk_at "at"))
  | ((with_reducible refine' g_setL ?hs ?he ?_); (case hs => walk_at "hp"); (case he => rfl))
  | ((with_reducible refine' g_app ?hs ?hz ?_); (case hs => walk_at "hp"); (case hz => walk_at "sz"))
  | ((with_reducible refine' ⟨_, _, rfl, Or.inl ?hs, ?_⟩); (case hs => walk_at "lk"))
  | ((with_reducible refine' ⟨_, _, rfl, Or.inr ?hs, ?_⟩); (case hs => walk_at "lk"))
  | with_reducible refine' g_BM ?_ | with_reducible refine' g_BM0 ?_ | ((with_reducible refine' g_tyL ?hs ?_); (case hs => walk_at "lk"))
  | with_reducible refine' g_sl ?_ | with_reducible refine' g_noPart ?_ | with_reducible refine' g_part ?_
  | ((with_reducible refine' g_inT ?hs ?fx ?fs ?_); (case hs => walk_at "lk"); (case fx => rfl); (case fs => rfl))
  | with_reducible refine' g_pair ?_ | with_reducible refine' g_pair0 ?_ | with_reducible refine' g_disp ?_
  | with_reducible refine' g_for ?_ | with_reducible refine' g_tupC ?_ | with_reducible refine' g_lstC ?_ | ((with_reducible refine' g_lens ?_)) | with_reducible refine' g_dg ?_ | with_reducible refine' g_lc ?_ | with_reducible refine' g_rng1 ?_ | with_reducible refine' g_ilist ?_ | with_reducible refine' g_itup ?_
  | ((with_reducible refine' ⟨_, _, rfl, ?hd, ?_⟩); (case hd => walk_at "dg"))
  | ((with_reducible refine' g_eqNil ?hs ?hz ?_); (case hs => walk_at "lk"); (case hz => walk_at "lk"))
  | ((with_reducible refine' g_neNil ?hs ?hz ?_); (case hs => walk_at "lk"); (case hz => walk_at "lk"))
  | with_reducible refine Or.inl ⟨_, rfl, ?_⟩
  | with_reducible refine Or.inr ⟨_, rfl, ?_⟩
  | ((with_reducible refine' g_eq ?hs ?_); (case hs => rfl))
  | ((with_reducible refine' g_ne ?hs ?_); (case hs => rfl))
  | ((with_reducible refine' g_I ?hc ?_); (case hc => walk_at "ar")))
/-- arithmetic's side conditions -/
local macro_rules | `(tactic| walk_at "ar") => `(tactic| (first
  | (show (0 : Int) < _; first | omega | decide) | (show (0 : Int) < _ ∧ _; constructor <;> omega) | (show ¬ (_ : Int) = _; omega) | (show (_ : Int) ≠ _ ∧ _; constructor <;> omega)
  | (show (-(2 ^ 64) < _ ∧ _) ∨ _; (first | (left; constructor <;> omega) | (right; constructor <;> omega))) | (show (0 : Int) ≤ _ ∧ _ ∧ _; refine ⟨by omega, by omega, by decide⟩)))
/-- what stands at an index -/
local macro_rules | `(tactic| walk_at "at") => `(tactic| first | rfl | assumption)
/-- what stands at an address -/
local macro_rules | `(tactic| walk_at "hp") => `(tactic| first | assumption | exact upd_same | ((refine' Eq.trans (upd_ne ?hn) ?hm); (case hm => walk_at "hp"); (case hn => walk_at "ne")))
/-- two places are two -/
local macro_rules | `(tactic| walk_at "ne") => `(tactic| first
  | assumption | exact Ne.symm (by assumption)
  | ((refine' ne_of_none ?ha ?hb); (case hb => assumption); (case ha => walk_at "hp")) | ((refine' Ne.symm (ne_of_none ?ha ?hb)); (case hb => assumption); (case ha => walk_at "hp")))
/-- what a dict tells -/
local macro_rules | `(tactic| walk_at "dg") => `(tactic| first | assumption)
/-- a length -/
local macro_rules | `(tactic| walk_at "sz") => `(tactic| first | (show _ ≤ sizeLine; decide) | (show _ < sizeLine; decide) | assumption | exact szlt (by simp) | exact szle (by simp))
/-- a list or tuple that stands -/
local macro_rules | `(tactic| walk_at "lk") => `(tactic| first | assumption | exact SqL.of (by assumption) | exact SqT.of (by assumption) | exact SqL.of upd_same | exact SqT.of upd_same | (refine' FzL.sq ?hm; (case hm => walk_at "fz")))
/-- a list that nobody writes -/
local macro_rules | `(tactic| walk_at "fz") => `(tactic| first | assumption | ((refine' FzL.uw ?hm ?hx); (case hx => walk_at "hp"); (case hm => walk_at "fz")) | ((refine' FzL.nw ?hm ?hx); (case hx => assumption); (case hm => walk_at "fz")))
/-- as far as it goes by itself -/
local macro_rules | `(tactic| walk_at "g") => `(tactic| repeat walk_at "g1")
/-- the body's reading, its places in short -/
local macro_rules | `(tactic| walk_at "go") => `(tactic| ((try dsimp only [cxOf, Cx.nox, Cx.wish]); walk_at "g"))
namespace K3
open PySem PySem.Spec PyProof.Rows L2 Bq
section
variable {P : Program} {w : World} {K : PySem.W.Frag} {mg : Str → Option Value} {base : Heap}
/-! ### deeds -/
structure GW (K : PySem.W.Frag) (H : Hp) (d wa : Addr) (nm : Int) (pl : Addr) (ps : List Nat) : Prop where
  dc : Dice K H d
  wd : H wa = some (.dK [(Sum.inr "names", .int nm), (Sum.inr "params", .ref pl)])
  hpl : H pl = some (.lst (ps.map fun n => V.int (n : Nat)))
  pd : pl ≠ d
  n0 : 0 ≤ nm
  n8 : nm ≤ 8
  l8 : ps.length ≤ 8
  p4 : ∀ n ∈ ps, n ≤ 4
section
variable {H H1 : Hp} {d wa r pl p : Addr} {nm rm x : Int} {ps : List Nat} {o : HO}
theorem GW.ch (g : GW K H d wa nm pl ps) (c : Ch K [d] H H1) (D : Dice K H1 d) : GW K H1 d wa nm pl ps := by
  obtain ⟨_, _, _, _, _, y⟩ := g.dc
  have h1 := ne_of g.wd y.h (by intro z; cases z)
  exact ⟨D, c.up _ _ g.wd (by simpa using h1), c.up _ _ g.hpl (by simpa using g.pd), g.pd, g.n0, g.n8, g.l8, g.p4⟩
theorem GW.nw (g : GW K H d wa nm pl ps) (n : H p = none) : GW K (upd H p o) d wa nm pl ps := g.ch (Ch.new n) (g.dc.nw n)
theorem GW.gi (g : GW K H d wa nm pl ps) (n : H r = none) : GI K (upd H r (.lst [.int x])) d wa r nm pl ps x := by
  have g' := g.nw (o := .lst [.int x]) n
  exact ⟨g'.dc, g'.wd, g'.hpl, upd_same, (g.dc.ne n).symm, g.pd, ne_of_none g.hpl n, g.n0, g.n8, g.l8, g.p4⟩
theorem GW.names (g : GW K H d wa nm pl ps) : DGet H wa (.str "names") (some (.int nm)) := by
  have h := DGet.k (k := Sum.inr "names") g.wd
  exact h
end
def spOne (K : PySem.W.Frag) : Sp := fun vs H Q _ => ∃ d wa nm pl ps m, vs = [.ref d, .ref wa, .int m] ∧ GW K H d wa nm pl ps ∧ 0 < m ∧ m ≤ 12 ∧
  ∀ H' v p, Ch K [d] H H' → Dice K H' d → Rep K H' v (encP p) → wfP nm.toNat ps p → szP p ≤ 18 → Q v H'
theorem fn_one (C : Cn w K mg base) : Fn P w K mg base CX0 28 "_law_one" ["_law_d", "_law_w", "_law_most"] (spOne K) := C.f_law_one fun fd F => by
  have F_law_next : Fn P w K mg base CX0 1 "_law_next" ["_law_dice_here", "_law_many"] (spNext K) := fn_next C
  have F_law_leaf : Fn P w K mg base CX0 2 "_law_leaf" ["_law_d", "_law_names"] (spLeaf K) := fn_leaf C
  have F_law_part : Fn P w K mg base CX0 14 "_law_part" ["_law_d", "_law_w", "_law_room"] (spPart K 12) := fn_part C 11
  have F_law_things : Fn P w K mg base CX0 27 "_law_things" ["_law_thing"] (spThings K 26) := fn_things C 26
  refine F.ok (CX := CX0) sc_law_one (fun vs H Q E h => ?_) (fun cdv A outer s H vs Q E hr h => ?_)
  · obtain ⟨d, wa, nm, pl, ps, m, rfl, _⟩ := h
    rfl
  · obtain ⟨d, wa, nm, pl, ps, m, rfl, g, m0, m1, q⟩ := h
    have hu := hu_of (rmm (j := 1) hr)
    refine ⟨_, PSs.nox (pss_cons (ps_set (i := 3) sc_law_one.nd rfl (Or.inl rfl) (pe_fn F_law_part (rmm hr) (by rfl) pass0 (pa_cons (pv 0) (pa_cons (pv 1) (pa_cons (pe_lst (pa_cons (pe_op op_add pe_int (pe_fn F_law_next (rmm hr) (by rfl) pass0 (pa_cons (pv 0) (pa_cons (pv 2) pa_nil)))) pa_nil)) pa_nil)))))
      (pss_one (ps_ret (pe_mid (pe_ifExp (pt_cmpR op_lt (pe_fn F_law_things (rmm hr) (by rfl) pass0 (pa_cons (pv 3) pa_nil)) pe_int (nomark _)) (pv 3) (pe_fn F_law_leaf (rmm hr) (by rfl) pass0 (pa_cons (pv 0) (pa_cons (pe_dget hu (pv 1) pe_str (fun _ _ => rfl)) pa_nil)))))))), ?_⟩
    walk_at "go"
    refine ⟨d, m, rfl, g.dc, m0, by omega, fun H1 n c1 D1 n0 n1 => ?_⟩
    have g1 := g.ch c1 D1
    walk_at "g"
    refine ⟨by show 1 ≤ sizeLine; decide, fun r nr => ?_⟩
    walk_at "g"
    refine ⟨d, wa, r, nm, pl, ps, 1 + n, rfl, g1.gi nr, by omega, fun H2 v p rm' c2 g2 _ rep wf dp => ?_⟩
    have c12 : Ch K [d] H H2 := c1.trans (c2.hide nr (by simp))
    walk_at "g"
    refine g_midE (fun v' H' => ∃ p', Ch K [d] H2 H' ∧ Dice K H' d ∧ Rep K H' v' (encP p') ∧ wfP nm.toNat ps p' ∧ szP p' ≤ 18) ?_ ?_
    · walk_at "g"
      have d1 := dpT_P p
      refine ⟨v, encP p, rfl, rep, by omega, fun H3 c3 => ?_⟩
      have D3 := g2.dc.ch c3 (by simp)
      rw [thT_P]
      walk_at "g"
      refine iteB (fun h => ?_) (fun h => ?_)
      · have h1 := of_decide_eq_true h
        walk_at "g"
        exact ⟨p, c3.mono (by simp), D3, rep.kt c3.kt, wf, by omega⟩
      · have g3 := (g.ch c12 g2.dc).ch (c3.mono (by simp)) D3
        have hn := g3.names
        walk_at "g"
        refine ⟨d, nm, rfl, D3, g.n0, g.n8, fun H4 v4 p4 c4 D4 rep4 wf4 s4 => ?_⟩
        exact ⟨p4, (c3.mono (by simp)).trans c4, D4, rep4, wf4 ps, by omega⟩
    · rintro v3 H3 ⟨p3, c3, D3, rep3, wf3, s3⟩
      exact q H3 v3 p3 (c12.trans c3) D3 rep3 wf3 s3
end
end K3
end

section
set_option maxRecDepth 100000
set_option maxHeartbeats 1000000
open Bq L2
/-- one step of a reading; what is left are side goals and places to think -/
local macro_rules | `(tactic| walk_at "g1") => `(tactic| first
  | with_reducible refine' g_seq ?_ | with_reducible refine' g_asg ?_ | with_reducible refine' g_drop ?_ | with_reducible refine' g_ret ?_ | with_reducible refine' g_ifS ?_ | with_reducible refine' g_asgG ?_
  | ((with_reducible refine' g_var ?hv ?_); (case hv => rfl))
  | with_reducible refine' g_c ?_ | with_reducible refine' g_op ?_ | with_reducible refine' g_un ?_ | with_reducible refine' g_I0 ?_ | with_reducible refine' g_U ?_
  | with_reducible refine' g_test ?_ | with_reducible refine' g_tB ?_ | with_reducible refine Exists.intro _ (And.intro rfl ?_) 
  | ((with_reducible refine' g_andP ?ha ?hb ?_); (case ha => intro R q; walk_at "g"; exact q); (case hb => intro R q; walk_at "g"; exact q))
  | ((with_reducible refine' g_orP ?ha ?hb ?_); (case ha => intro R q; walk_at "g"; exact q); (case hb => intro R q; walk_at "g"; exact q))
  | with_reducible refine' g_and ?_ | with_reducible refine' g_or ?_ | with_reducible refine' g_not ?_
  | with_reducible refine' g_andV ?_ | with_reducible refine' g_orV ?_ | with_reducible refine' g_notV ?_ | with_reducible refine' g_if ?_ | with_reducible refine' g_nil ?_ | with_reducible refine' g_cons ?_
  | with_reducible refine' g_tup ?_ | with_reducible refine' g_lst ?_ | with_reducible refine' g_CB ?_ | with_reducible refine' g_Fn ?_ | with_reducible refine' g_next ?_ | with_reducible refine' g_retN ?_
  | with_reducible refine' g_name ?_ | with_reducible refine' g_sub ?_
  | ((with_reducible refine' g_ixL ?hs ?he ?_); (case hs => walk_at "lk"); (case he => walk_at "at"))
  | ((with_reducible refine' g_ixT ?hs ?he ?_); (case hs => walk_at "lk"); (case he => walk_at "at"))
  | ((with_reducible refine' g_setL ?hs ?he ?_); (case hs => walk_at "hp"); (case he => rfl))
  | ((with_reducible refine' g_app ?hs ?hz ?_); (case hs => walk_at "hp"); (case hz => walk_at "sz"))
  | ((with_reducible refine' ⟨_, _, rfl, Or.inl ?hs, ?_⟩); (case hs => walk_at "lk"))
  | ((with_reducible refine' ⟨_, _, rfl, Or.inr ?hs, ?_⟩); (case hs => walk_at "lk"))
  | with_reducible refine' g_BM ?_ | with_reducible refine' g_BM0 ?_ | ((with_reducible refine' g_tyL ?hs ?_); (case hs => walk_at "lk"))
  | with_reducible refine' g_sl ?_ | with_reducible refine' g_noPart ?_ | with_reducible refine' g_part ?_
  | ((with_reducible refine' g_inT ?hs ?fx ?fs ?_); (case hs => walk_at "lk"); (case fx => rfl); (case fs => rfl))
  | with_reducible refine' g_pair ?_ | with_reducible refine' g_pair0 ?_ | with_reducible refine' g_disp ?_
  | with_reducible refine' g_for ?_ | with_reducible refine' g_tupC ?_ | with_reducible refine' g_lstC ?_ | ((with_reducible refine' g_lens ?_)) | with_reducible refine' g_dg ?_ | with_reducible refine' g_lc ?_ | with_reducible refine' g_rng1 ?_ | with_reducible refine' g_ilist ?_ | with_reducible refine' g_itup ?_
  | ((with_reducible refine' ⟨_, _, rfl, ?hd, ?_⟩); (case hd => walk_at "dg"))
  | ((with_reducible refine' g_eqNil ?hs ?hz ?_); (case hs => walk_at "lk"); (case hz => walk_at "lk"))
  | ((with_reducible refine' g_neNil ?hs ?hz ?_); (case hs => walk_at "lk"); (case hz => walk_at "lk"))
  | with_reducible refine Or.inl ⟨_, rfl, ?_⟩
  | with_reducible refine Or.inr ⟨_, rfl, ?_⟩
  | ((with_reducible refine' g_eq ?hs ?_); (case hs => rfl))
  | ((with_reducible refine' g_ne ?hs ?_); (case hs => rfl))
  | ((with_reducible refine' g_I ?hc ?_); (case hc => walk_at "ar")))
/-- arithmetic's side conditions -/
local macro_rules | `(tactic| walk_at "ar") => `(tactic| (first
  | (show (0 : Int) < _; first | omega | decide) | (show (0 : Int) < _ ∧ _; constructor <;> omega) | (show ¬ (_ : Int) = _; omega) | (show (_ : Int) ≠ _ ∧ _; constructor <;> omega)
  | (show (-(2 ^ 64) < _ ∧ _) ∨ _; (first | (left; constructor <;> omega) | (right; constructor <;> omega))) | (show (0 : Int) ≤ _ ∧ _ ∧ _; refine ⟨by omega, by omega, by decide⟩)))
/-- what stands at an index -/
local macro_rules | `(tactic| walk_at "at") => `(tactic| first | rfl | assumption)
/-- what stands at an address -/
local macro_rules | `(tactic| walk_at "hp") => `(tactic| first | assumption | exact upd_same | ((refine' Eq.trans (upd_ne ?hn) ?hm); (case hm => walk_at "hp"); (case hn => walk_at "ne")))
/-- two places are two -/
local macro_rules | `(tactic| walk_at "ne") => `(tactic| first
  | assumption | exact Ne.symm (by assumption)
  | ((refine' ne_of_none ?ha ?hb); (case hb => assumption); (case ha => walk_at "hp")) | ((refine' Ne.symm (ne_of_none ?ha ?hb)); (case hb => assumption); (case ha => walk_at "hp")))
/-- what a dict tells -/
local macro_rules | `(tactic| walk_at "dg") => `(tactic| first | assumption)
/-- a length -/
local macro_rules | `(tactic| walk_at "sz") => `(tactic| first | (show _ ≤ sizeLine; decide) | (show _ < sizeLine; decide) | assumption | exact szlt (by simp) | exact szle (by simp))
/-- a list or tuple that stands -/
local macro_rules | `(tactic| walk_at "lk") => `(tactic| first | assumption | exact SqL.of (by assumption) | exact SqT.of (by assumption) | exact SqL.of upd_same | exact SqT.of upd_same | (refine' FzL.sq ?hm; (case hm => walk_at "fz")))
/-- a list that nobody writes -/
local macro_rules | `(tactic| walk_at "fz") => `(tactic| first | assumption | ((refine' FzL.uw ?hm ?hx); (case hx => walk_at "hp"); (case hm => walk_at "fz")) | ((refine' FzL.nw ?hm ?hx); (case hx => assumption); (case hm => walk_at "fz")))
/-- as far as it goes by itself -/
local macro_rules | `(tactic| walk_at "g") => `(tactic| repeat walk_at "g1")
/-- the body's reading, its places in short -/
local macro_rules | `(tactic| walk_at "go") => `(tactic| ((try dsimp only [cxOf, Cx.nox, Cx.wish]); walk_at "g"))
namespace K3
open PySem PySem.Spec PyProof.Rows L2 Bq
section
variable {P : Program} {w : World} {K : PySem.W.Frag} {mg : Str → Option Value} {base : Heap}
def spDeed (K : PySem.W.Frag) (dp : Nat) : Sp := fun vs H Q _ => ∃ d wa nm pl ps, vs = [.ref d, .ref wa, .int (dp : Nat)] ∧ GW K H d wa nm pl ps ∧
  ∀ H' v D, Ch K [d] H H' → Dice K H' d → Rep K H' v (encDd D) → wfD nm.toNat ps dp D → Q v H'
def spBody (K : PySem.W.Frag) (dp : Nat) : Sp := fun vs H Q _ => ∃ d wa nm pl ps, vs = [.ref d, .ref wa, .int (dp : Nat)] ∧ GW K H d wa nm pl ps ∧
  ∀ H' v b, Ch K [d] H H' → Dice K H' d → Rep K H' v (.tup (encB b)) → wfBs nm.toNat ps (dp + 1) b → b.length ≤ 4 → Q v H'
theorem one_use {H : Hp} {Q : VK} {E : XK} {d wa pl : Addr} {nm m : Int} {ps : List Nat} (g : GW K H d wa nm pl ps) (m0 : 0 < m) (m1 : m ≤ 12)
    (k : ∀ H' v p, Ch K [d] H H' → GW K H' d wa nm pl ps → Rep K H' v (encP p) → wfP nm.toNat ps p → szP p ≤ 18 → Q v H') : spOne K [.ref d, .ref wa, .int m] H Q E :=
  ⟨d, wa, nm, pl, ps, m, rfl, g, m0, m1, fun H' v p c D r wf s => k H' v p c (g.ch c D) r wf s⟩
theorem deed_step (C : Cn w K mg base) (k : Nat) (hk : 28 ≤ k) (dp : Nat) {spB spW : Sp} (F_law_body : Fn P w K mg base CX0 k "_law_body" ["_law_d", "_law_w", "_law_deep"] spB)
    (F_law_while : Fn P w K mg base CX0 k "_law_while" ["_law_d", "_law_w", "_law_deep"] spW) (hB : ∀ m, dp = m + 1 → ∀ vs H Q E, spBody K m vs H Q E → spB vs H Q E)
    (hW : 0 < dp → ∀ vs H Q E, spDeed K dp vs H Q E → spW vs H Q E) : Fn P w K mg base CX0 (k + 1) "_law_deed" ["_law_d", "_law_w", "_law_deep"] (spDeed K dp) := C.f_law_deed fun fd F => by
  have F_law_next : Fn P w K mg base CX0 1 "_law_next" ["_law_dice_here", "_law_many"] (spNext K) := fn_next C
  have F_law_leaf : Fn P w K mg base CX0 2 "_law_leaf" ["_law_d", "_law_names"] (spLeaf K) := fn_leaf C
  have F_law_one : Fn P w K mg base CX0 28 "_law_one" ["_law_d", "_law_w", "_law_most"] (spOne K) := fn_one C
  refine F.ok (CX := CX0) sc_law_deed (fun vs H Q E h => ?_) (fun cdv A outer s H vs Q E hr h => ?_)
  · obtain ⟨d, wa, nm, pl, ps, rfl, _⟩ := h
    rfl
  · obtain ⟨d, wa, nm, pl, ps, rfl, g, q⟩ := h
    have hu := hu_of (rmm (j := 1) hr)
    refine ⟨_, PSs.nox (pss_cons (ps_set (i := 3) sc_law_deed.nd rfl (Or.inl rfl) (pe_fn F_law_next (rmm hr) (by rfl) pass0 (pa_cons (pv 0) (pa_cons pe_int pa_nil))))
      (pss_cons (ps_if (PW.pt (pw_and (pt_cmpR op_lt (pv 3) pe_int (nomark _)) (pw_and1 (pt_cmpR op_gt (pe_dget hu (pv 1) pe_str (fun _ _ => rfl)) pe_int (nomark _))))) (pss_one (ps_ret (pe_tup (pa_cons pe_str (pa_cons (pe_fn F_law_next (rmm hr) (by rfl) pass0 (pa_cons (pv 0) (pa_cons (pe_dget hu (pv 1) pe_str (fun _ _ => rfl)) pa_nil))) (pa_cons (pe_fn F_law_one (rmm hr) (by rfl) pass0 (pa_cons (pv 0) (pa_cons (pv 1) (pa_cons pe_int pa_nil)))) pa_nil)))))) pss_nil)
      (pss_cons (ps_if (pt_cmpR op_lt (pv 3) pe_int (nomark _)) (pss_one (ps_ret (pe_tup (pa_cons pe_str (pa_cons (pe_fn F_law_one (rmm hr) (by rfl) pass0 (pa_cons (pv 0) (pa_cons (pv 1) (pa_cons pe_int pa_nil)))) pa_nil))))) pss_nil)
      (pss_cons (ps_if (pt_cmpR op_lt (pv 3) pe_int (nomark _)) (pss_one (ps_ret (pe_tup (pa_cons pe_str (pa_cons (pe_mid (pe_ifExp (pt_cmpR op_gt (pe_fn F_law_next (rmm hr) (by rfl) pass0 (pa_cons (pv 0) (pa_cons pe_int pa_nil))) pe_int (nomark _)) (pe_fn F_law_leaf (rmm hr) (by rfl) pass0 (pa_cons (pv 0) (pa_cons pe_int pa_nil))) (pe_fn F_law_one (rmm hr) (by rfl) pass0 (pa_cons (pv 0) (pa_cons (pv 1) (pa_cons pe_int pa_nil)))))) (pa_cons (pe_fn F_law_one (rmm hr) (by rfl) pass0 (pa_cons (pv 0) (pa_cons (pv 1) (pa_cons pe_int pa_nil)))) pa_nil)))))) pss_nil)
      (pss_cons (ps_if (PW.pt (pw_and (pt_cmpR op_eq (pv 3) pe_int (nomark _)) (pw_and1 (pt_cmpR op_gt (pv 2) pe_int (nomark _))))) (pss_one (ps_ret (pe_tup (pa_cons pe_str (pa_cons (pe_fn F_law_one (rmm hr) (by rfl) pass0 (pa_cons (pv 0) (pa_cons (pv 1) (pa_cons pe_int pa_nil)))) (pa_cons (pe_fn F_law_body (rmm hr) (by rfl) pass0 (pa_cons (pv 0) (pa_cons (pv 1) (pa_cons (pe_op op_sub (pv 2) pe_int) pa_nil)))) (pa_cons (pe_fn F_law_body (rmm hr) (by rfl) pass0 (pa_cons (pv 0) (pa_cons (pv 1) (pa_cons (pe_op op_sub (pv 2) pe_int) pa_nil)))) pa_nil))))))) pss_nil)
      (pss_cons (ps_if (PW.pt (pw_and (pt_cmpR op_eq (pv 3) pe_int (nomark _)) (pw_and1 (pt_cmpR op_gt (pv 2) pe_int (nomark _))))) (pss_one (ps_ret (pe_fn F_law_while (rmm hr) (by rfl) pass0 (pa_cons (pv 0) (pa_cons (pv 1) (pa_cons (pv 2) pa_nil)))))) pss_nil)
      (pss_cons (ps_if (pt_cmpR op_eq (pv 3) pe_int (nomark _)) (pss_one (ps_ret (pe_mid (pe_ifExp (pt_cmpR op_eq (pe_fn F_law_next (rmm hr) (by rfl) pass0 (pa_cons (pv 0) (pa_cons pe_int pa_nil))) pe_int (nomark _)) (pe_tup (pa_cons pe_str (pa_cons (pe_fn F_law_one (rmm hr) (by rfl) pass0 (pa_cons (pv 0) (pa_cons (pv 1) (pa_cons pe_int pa_nil)))) pa_nil))) (pe_tup (pa_cons pe_str (pa_cons (pe_fn F_law_leaf (rmm hr) (by rfl) pass0 (pa_cons (pv 0) (pa_cons (pe_dget hu (pv 1) pe_str (fun _ _ => rfl)) pa_nil))) pa_nil))))))) pss_nil)
      (pss_one (ps_ret (pe_tup (pa_cons pe_str (pa_cons (pe_fn F_law_one (rmm hr) (by rfl) pass0 (pa_cons (pv 0) (pa_cons (pv 1) (pa_cons pe_int pa_nil)))) pa_nil)))))))))))), ?_⟩
    walk_at "go"
    refine ⟨d, 14, rfl, g.dc, by decide, by decide, fun H1 way c1 D1 w0 w1 => ?_⟩
    have g1 := g.ch c1 D1
    have hn := g1.names
    walk_at "g"
    refine iteB (fun h => ?_) (fun h => ?_)
    · have h2 : way < 4 ∧ 0 < nm := by simpa using h
      walk_at "g"
      refine ⟨d, nm, rfl, D1, h2.2, by have := g.n8; omega, fun H2 i c2 D2 i0 i1 => ?_⟩
      walk_at "g"
      refine one_use (g1.ch c2 D2) (by decide) (by decide) fun H3 v p c3 g3 rep wf sz => ?_
      walk_at "g"
      refine ⟨by show 3 ≤ sizeLine; decide, fun t nt => ?_⟩
      have ei : i = (i.toNat : Int) := by omega
      refine q _ _ (.set i.toNat p) ((c1.trans c2).trans (c3.trans (Ch.new nt))) (g3.dc.nw nt) (.tup (SqT.of upd_same) (.cons (.str _) (.cons ?_ (.cons (rep.kt (Ch.new (S := []) nt).kt) .nil)))) ⟨by omega, wf, by omega⟩
      rw [ei]
      exact .int _
    · walk_at "g"
      refine iteB (fun h => ?_) (fun h => ?_)
      · walk_at "g"
        refine one_use g1 (by decide) (by decide) fun H3 v p c3 g3 rep wf sz => ?_
        walk_at "g"
        refine ⟨by show 2 ≤ sizeLine; decide, fun t nt => ?_⟩
        exact q _ _ (.say p) (c1.trans (c3.trans (Ch.new nt))) (g3.dc.nw nt) (.tup (SqT.of upd_same) (.cons (.str _) (.cons (rep.kt (Ch.new (S := []) nt).kt) .nil))) ⟨wf, by omega⟩
      · walk_at "g"
        refine iteB (fun h => ?_) (fun h => ?_)
        · walk_at "g"
          refine g_midE (fun v' H' => ∃ p', Ch K [d] H H' ∧ GW K H' d wa nm pl ps ∧ Rep K H' v' (encP p') ∧ wfP nm.toNat ps p' ∧ szP p' ≤ 18) ?_ ?_
          · walk_at "g"
            refine ⟨d, 4, rfl, D1, by decide, by decide, fun H2 j c2 D2 j0 j1 => ?_⟩
            have g2 := g1.ch c2 D2
            walk_at "g"
            refine iteB (fun h => ?_) (fun h => ?_)
            · walk_at "g"
              refine ⟨d, 0, rfl, D2, by decide, by decide, fun H3 v p c3 D3 rep wf sz => ?_⟩
              exact ⟨p, (c1.trans c2).trans c3, g2.ch c3 D3, rep, wfP_mono (Nat.zero_le _) (wf ps), by omega⟩
            · walk_at "g"
              refine one_use g2 (by decide) (by decide) fun H3 v p c3 g3 rep wf sz => ?_
              exact ⟨p, (c1.trans c2).trans c3, g3, rep, wf, sz⟩
          · clear hn g1 D1 c1 H1
            rintro v1 H1 ⟨p1, c1, g1, rep1, wf1, s1⟩
            walk_at "g"
            refine one_use g1 (by decide) (by decide) fun H3 v p c3 g3 rep wf sz => ?_
            walk_at "g"
            refine ⟨by show 3 ≤ sizeLine; decide, fun t nt => ?_⟩
            have cc := c3.trans (Ch.new nt (o := .tup [.str "put", v1, v]))
            exact q _ _ (.put p1 p) (c1.trans cc) (g3.dc.nw nt) (.tup (SqT.of upd_same) (.cons (.str _) (.cons (rep1.kt cc.kt) (.cons (rep.kt (Ch.new (S := []) nt).kt) .nil)))) ⟨wf1, wf, by omega⟩
        · walk_at "g"
          refine iteB (fun h => ?_) (fun h => ?_)
          · have h2 : way = 9 ∧ 0 < dp := by simpa using h
            obtain ⟨m, rfl⟩ : ∃ m, dp = m + 1 := ⟨dp - 1, by omega⟩
            have hB' := hB m rfl
            have em : (((m + 1 : Nat) : Int) - 1) = (m : Nat) := by omega
            walk_at "g"
            refine one_use g1 (by decide) (by decide) fun H3 v p c3 g3 rep wf sz => ?_
            walk_at "g"
            rw [em]
            refine hB' _ _ _ _ ⟨d, wa, nm, pl, ps, rfl, g3, fun H4 va ba c4 D4 ra wa4 _ => ?_⟩
            have g4 := g3.ch c4 D4
            walk_at "g"
            rw [em]
            refine hB' _ _ _ _ ⟨d, wa, nm, pl, ps, rfl, g4, fun H5 vb bb c5 D5 rb wb5 _ => ?_⟩
            walk_at "g"
            refine ⟨by show 4 ≤ sizeLine; decide, fun t nt => ?_⟩
            have k5 := c5.trans (Ch.new nt (o := .tup [.str "if", v, va, vb]))
            have k4 := c4.trans k5
            exact q _ _ (.ite p ba bb) (c1.trans (c3.trans k4)) (D5.nw nt) (.tup (SqT.of upd_same) (.cons (.str _) (.cons (rep.kt k4.kt) (.cons (ra.kt k5.kt) (.cons (rb.kt (Ch.new (S := []) nt).kt) .nil))))) ⟨wf, by omega, wa4, wb5⟩
          · walk_at "g"
            refine iteB (fun h => ?_) (fun h => ?_)
            · have h2 : way = 10 ∧ 0 < dp := by simpa using h
              walk_at "g"
              refine hW h2.2 _ _ _ _ ⟨d, wa, nm, pl, ps, rfl, g1, fun H4 v D c4 D4 r wf => ?_⟩
              exact q _ _ D (c1.trans c4) D4 r wf
            · walk_at "g"
              refine iteB (fun h => ?_) (fun h => ?_)
              · walk_at "g"
                refine g_midE (fun v' H' => ∃ D, Ch K [d] H H' ∧ Dice K H' d ∧ Rep K H' v' (encDd D) ∧ wfD nm.toNat ps dp D) ?_ ?_
                · walk_at "g"
                  refine ⟨d, 2, rfl, D1, by decide, by decide, fun H2 j c2 D2 j0 j1 => ?_⟩
                  have g2 := g1.ch c2 D2
                  have hn2 := g2.names
                  walk_at "g"
                  refine iteB (fun h => ?_) (fun h => ?_)
                  · walk_at "g"
                    refine one_use g2 (by decide) (by decide) fun H3 v p c3 g3 rep wf sz => ?_
                    walk_at "g"
                    refine ⟨by show 2 ≤ sizeLine; decide, fun t nt => ?_⟩
                    exact ⟨.ret p, (c1.trans c2).trans (c3.trans (Ch.new nt)), g3.dc.nw nt, .tup (SqT.of upd_same) (.cons (.str _) (.cons (rep.kt (Ch.new (S := []) nt).kt) .nil)), wf, by omega⟩
                  · walk_at "g"
                    refine ⟨d, nm, rfl, D2, g.n0, g.n8, fun H3 v p c3 D3 rep wf sz => ?_⟩
                    walk_at "g"
                    refine ⟨by show 2 ≤ sizeLine; decide, fun t nt => ?_⟩
                    exact ⟨.say p, (c1.trans c2).trans (c3.trans (Ch.new nt)), D3.nw nt, .tup (SqT.of upd_same) (.cons (.str _) (.cons (rep.kt (Ch.new (S := []) nt).kt) .nil)), wf ps, by omega⟩
                · rintro v H3 ⟨D, c3, D3, r3, w3⟩
                  exact q _ _ D c3 D3 r3 w3
              · walk_at "g"
                refine one_use g1 (by decide) (by decide) fun H3 v p c3 g3 rep wf sz => ?_
                walk_at "g"
                refine ⟨by show 2 ≤ sizeLine; decide, fun t nt => ?_⟩
                exact q _ _ (.dop p) (c1.trans (c3.trans (Ch.new nt))) (g3.dc.nw nt) (.tup (SqT.of upd_same) (.cons (.str _) (.cons (rep.kt (Ch.new (S := []) nt).kt) .nil))) ⟨wf, by omega⟩
theorem encB_app : ∀ (a b : List Dd), encB (a ++ b) = encB a ++ encB b
  | [], b => rfl
  | p :: r, b => congrArg (encDd p :: ·) (encB_app r b)
theorem encB_len : ∀ b : List Dd, (encB b).length = b.length
  | [] => rfl
  | _ :: r => congrArg Nat.succ (encB_len r)
theorem wfBs_app {n : Nat} {ps : List Nat} {m : Nat} : ∀ {a b : List Dd}, wfBs n ps (m + 1) a → wfBs n ps (m + 1) b → wfBs n ps (m + 1) (a ++ b)
  | [], b, _, h => h
  | p :: r, b, h, k => ⟨h.1, wfBs_app h.2 k⟩
theorem while_step (C : Cn w K mg base) (k : Nat) (hk : 28 ≤ k) (m : Nat) (F_law_body : Fn P w K mg base CX0 k "_law_body" ["_law_d", "_law_w", "_law_deep"] (spBody K m)) :
    Fn P w K mg base CX0 (k + 1) "_law_while" ["_law_d", "_law_w", "_law_deep"] (spDeed K (m + 1)) := C.f_law_while fun fd F => by
  have F_law_next : Fn P w K mg base CX0 1 "_law_next" ["_law_dice_here", "_law_many"] (spNext K) := fn_next C
  refine F.ok (CX := CX0) sc_law_while (fun vs H Q E h => ?_) (fun cdv A outer s H vs Q E hr h => ?_)
  · obtain ⟨d, wa, nm, pl, ps, rfl, _⟩ := h
    rfl
  · obtain ⟨d, wa, nm, pl, ps, rfl, g, q⟩ := h
    have hu := hu_of (rmm (j := 1) hr)
    refine ⟨_, PSs.nox (pss_cons (ps_set (i := 3) sc_law_while.nd rfl (Or.inl rfl) (pe_fn F_law_body (rmm hr) (by rfl) pass0 (pa_cons (pv 0) (pa_cons (pv 1) (pa_cons (pe_op op_sub (pv 2) pe_int) pa_nil)))))
      (pss_cons (ps_if (pt_mid (PW.pt (pw_and (pt_cmpR op_gt (pe_dget hu (pv 1) pe_str (fun _ _ => rfl)) pe_int (nomark _)) (pw_and1 (pt_cmpR op_gt (pe_fn F_law_next (rmm hr) (by rfl) pass0 (pa_cons (pv 0) (pa_cons pe_int pa_nil))) pe_int (nomark _)))))) (pss_cons (ps_set (i := 4) sc_law_while.nd rfl (Or.inl rfl) (pe_fn F_law_next (rmm hr) (by rfl) pass0 (pa_cons (pv 0) (pa_cons (pe_dget hu (pv 1) pe_str (fun _ _ => rfl)) pa_nil))))
      (pss_cons (ps_set (i := 5) sc_law_while.nd rfl (Or.inl rfl) (pe_tupC (pa_cons pe_str (pa_cons (pv 4) (pa_cons (pe_tupC (pa_cons pe_str (pa_cons (pe_tupC (pa_cons pe_str (pa_cons (pv 4) pa_nil))) (pa_cons (pe_tupC (pa_cons pe_str (pa_cons pe_int pa_nil))) pa_nil)))) pa_nil)))))
      (pss_one (ps_ret (pe_tupC (pa_cons pe_str (pa_cons (pe_tupC (pa_cons pe_str (pa_cons (pe_tupC (pa_cons pe_str (pa_cons pe_int pa_nil))) (pa_cons (pe_tupC (pa_cons pe_str (pa_cons (pv 4) pa_nil))) pa_nil)))) (pa_cons (pe_op op_catR (pv 3) (pe_tupC (pa_cons (pv 5) pa_nil))) pa_nil)))))))) pss_nil)
      (pss_cons (ps_set (i := 6) sc_law_while.nd rfl (Or.inl rfl) (pe_tupC (pa_cons pe_str (pa_cons (pe_fn F_law_next (rmm hr) (by rfl) pass0 (pa_cons (pv 0) (pa_cons pe_int pa_nil))) pa_nil))))
      (pss_cons (ps_set (i := 5) sc_law_while.nd rfl (Or.inl rfl) (pe_tupC (pa_cons pe_str (pa_cons (pv 6) (pa_cons (pe_tupC (pa_cons pe_str (pa_cons (pe_tupC (pa_cons pe_str (pa_cons (pv 6) pa_nil))) (pa_cons (pe_tupC (pa_cons pe_str (pa_cons pe_int pa_nil))) pa_nil)))) pa_nil)))))
      (pss_one (ps_ret (pe_tupC (pa_cons pe_str (pa_cons (pe_tupC (pa_cons pe_str (pa_cons (pe_tupC (pa_cons pe_str (pa_cons (pv 6) pa_nil))) (pa_cons (pe_tupC (pa_cons pe_str (pa_cons (pe_fn F_law_next (rmm hr) (by rfl) pass0 (pa_cons (pv 0) (pa_cons pe_int pa_nil))) pa_nil))) pa_nil)))) (pa_cons (pe_op op_catR (pv 3) (pe_tupC (pa_cons (pv 5) pa_nil))) pa_nil)))))))))), ?_⟩
    have em : (((m + 1 : Nat) : Int) - 1) = (m : Nat) := by omega
    walk_at "go"
    rw [em]
    refine ⟨d, wa, nm, pl, ps, rfl, g, fun H1 vb b c1 D1 rb wb lb => ?_⟩
    have g1 := g.ch c1 D1
    have hn := g1.names
    walk_at "g"
    refine g_mid (fun b H' => (b = true → 0 < nm) ∧ Ch K [d] H1 H' ∧ Dice K H' d) ?_ ?_
    · walk_at "g"
      refine iteB (fun h => ?_) (fun h => ?_)
      · have h0 := of_decide_eq_true h
        walk_at "g"
        refine ⟨d, 5, rfl, D1, by decide, by decide, fun H2 j c2 D2 j0 j1 => ?_⟩
        walk_at "g"
        exact ⟨fun _ => h0, c2, D2⟩
      · exact ⟨fun z => (by cases z), Ch.refl, D1⟩
    · rintro bb H2 ⟨hb, c2, D2⟩
      have g2 := g1.ch c2 D2
      have hn2 := g2.names
      obtain ⟨ab, vs, rfl, hS, reps⟩ := rb.tupI
      refine iteB (fun h => ?_) (fun h => ?_)
      · walk_at "g"
        refine ⟨d, nm, rfl, D2, hb h, by have := g.n8; omega, fun H3 i c3 D3 i0 i1 => ?_⟩
        have c23 := c2.trans c3
        have hi : i.toNat < nm.toNat := by omega
        obtain ⟨i, rfl⟩ : ∃ j : Nat, i = j := ⟨i.toNat, by omega⟩
        walk_at "g"
        refine ⟨szle (by simp), fun t1 H4 _ ec4 c4 => ?_⟩
        have r1 : Rep K H4 (.ref t1) (.tup _) := .tup (SqT.of ec4) (Reps.kt c4.kt (.cons (.str _) (.cons (.int _) .nil)))
        walk_at "g"
        refine ⟨szle (by simp), fun t2 H5 _ ec5 c5 => ?_⟩
        have r2 : Rep K H5 (.ref t2) (.tup _) := .tup (SqT.of ec5) (Reps.kt c5.kt (.cons (.str _) (.cons (.int _) .nil)))
        walk_at "g"
        refine ⟨szle (by simp), fun t3 H6 _ ec6 c6 => ?_⟩
        have r3 : Rep K H6 (.ref t3) (.tup _) := .tup (SqT.of ec6) (Reps.kt c6.kt (.cons (.str _) (.cons (r1.kt c5.kt) (.cons r2 .nil))))
        walk_at "g"
        refine ⟨szle (by simp), fun t4 H7 _ ec7 c7 => ?_⟩
        have r4 : Rep K H7 (.ref t4) (.tup _) := .tup (SqT.of ec7) (Reps.kt c7.kt (.cons (.str _) (.cons (.int _) (.cons r3 .nil))))
        walk_at "g"
        refine ⟨szle (by simp), fun t5 H8 _ ec8 c8 => ?_⟩
        have r5 : Rep K H8 (.ref t5) (.tup _) := .tup (SqT.of ec8) (Reps.kt c8.kt (.cons (.str _) (.cons (.int _) .nil)))
        walk_at "g"
        refine ⟨szle (by simp), fun t6 H9 _ ec9 c9 => ?_⟩
        have r6 : Rep K H9 (.ref t6) (.tup _) := .tup (SqT.of ec9) (Reps.kt c9.kt (.cons (.str _) (.cons (.int _) .nil)))
        walk_at "g"
        refine ⟨szle (by simp), fun t7 H10 _ ec10 c10 => ?_⟩
        have r7 : Rep K H10 (.ref t7) (.tup _) := .tup (SqT.of ec10) (Reps.kt c10.kt (.cons (.str _) (.cons (r5.kt c9.kt) (.cons r6 .nil))))
        walk_at "g"
        have c710 := c8.trans (c9.trans c10)
        refine ⟨szle (by simp), fun t8 H11 _ ec11 c11 => ?_⟩
        have r8 : Rep K H11 (.ref t8) (.tup _) := .tup (SqT.of ec11) (Reps.kt c11.kt (.cons (r4.kt c710.kt) .nil))
        walk_at "g"
        have c311 := c4.trans (c5.trans (c6.trans (c7.trans (c710.trans c11))))
        have lb2 : (encB b).length ≤ 4 := by rw [encB_len]; exact lb
        refine ⟨_, _, rb.kt (c23.kt.trans c311.kt), r8, (by simp only [List.length_cons, List.length_nil]; omega), fun v9 H12 c12 r9 => ?_⟩
        walk_at "g"
        refine ⟨szle (by simp), fun t9 H13 _ ec13 c13 => ?_⟩
        have r10 : Rep K H13 (.ref t9) (.tup _) := .tup (SqT.of ec13) (Reps.kt c13.kt (.cons (.str _) (.cons (r7.kt (c11.trans c12).kt) (.cons r9 .nil))))
        have c313 := (c311.trans (c12.trans c13)).mono (S' := [d]) (by simp)
        have e := encB_app b [.set i (.bin .take (.name i) (.num 1))]
        refine q _ _ (.whl (.bin .less (.num 0) (.name i)) (b ++ [.set i (.bin .take (.name i) (.num 1))])) ((c1.trans c23).trans c313) (D3.ch (c311.trans (c12.trans c13)) (by simp)) ?_ ⟨⟨⟨by decide, by decide⟩, hi⟩, by simp [szP], wfBs_app wb (show wfBs nm.toNat ps (m + 1) [.set i (.bin .take (.name i) (.num 1))] from ⟨⟨hi, ⟨hi, by decide, by decide⟩, by simp [szP]⟩, trivial⟩)⟩
        simp only [encDd, encP, e]
        exact r10
      · walk_at "g"
        refine ⟨d, 9, rfl, D2, by decide, by decide, fun H3 i c3 D3 i0 i1 => ?_⟩
        have c23 := c2.trans c3
        walk_at "g"
        refine ⟨szle (by simp), fun t1 H4 _ ec4 c4 => ?_⟩
        have r1 : Rep K H4 (.ref t1) (.tup _) := .tup (SqT.of ec4) (Reps.kt c4.kt (.cons (.str _) (.cons (.int _) .nil)))
        walk_at "g"
        refine ⟨szle (by simp), fun t2 H5 _ ec5 c5 => ?_⟩
        have r2 : Rep K H5 (.ref t2) (.tup _) := .tup (SqT.of ec5) (Reps.kt c5.kt (.cons (.str _) (.cons r1 .nil)))
        walk_at "g"
        refine ⟨szle (by simp), fun t3 H6 _ ec6 c6 => ?_⟩
        have r3 : Rep K H6 (.ref t3) (.tup _) := .tup (SqT.of ec6) (Reps.kt c6.kt (.cons (.str _) (.cons (.int _) .nil)))
        walk_at "g"
        refine ⟨szle (by simp), fun t4 H7 _ ec7 c7 => ?_⟩
        have r4 : Rep K H7 (.ref t4) (.tup _) := .tup (SqT.of ec7) (Reps.kt c7.kt (.cons (.str _) (.cons (r2.kt c6.kt) (.cons r3 .nil))))
        walk_at "g"
        have c57 := c5.trans (c6.trans c7)
        refine ⟨szle (by simp), fun t5 H8 _ ec8 c8 => ?_⟩
        have r5 : Rep K H8 (.ref t5) (.tup _) := .tup (SqT.of ec8) (Reps.kt c8.kt (.cons (.str _) (.cons (r1.kt c57.kt) (.cons r4 .nil))))
        walk_at "g"
        have r1' := r1.kt (c57.trans c8).kt
        refine ⟨szle (by simp), fun t6 H9 _ ec9 c9 => ?_⟩
        have r6 : Rep K H9 (.ref t6) (.tup _) := .tup (SqT.of ec9) (Reps.kt c9.kt (.cons (.str _) (.cons r1' .nil)))
        have c39 := c4.trans (c57.trans (c8.trans c9))
        have D9 := D3.ch c39 (by simp)
        walk_at "g"
        refine ⟨d, 6, rfl, D9, by decide, by decide, fun H10 j c10 D10 j0 j1 => ?_⟩
        walk_at "g"
        refine ⟨szle (by simp), fun t7 H11 _ ec11 c11 => ?_⟩
        have r7 : Rep K H11 (.ref t7) (.tup _) := .tup (SqT.of ec11) (Reps.kt c11.kt (.cons (.str _) (.cons (.int _) .nil)))
        walk_at "g"
        refine ⟨szle (by simp), fun t8 H12 _ ec12 c12 => ?_⟩
        have r8 : Rep K H12 (.ref t8) (.tup _) := .tup (SqT.of ec12) (Reps.kt c12.kt (.cons (.str _) (.cons (r6.kt (c10.kt.trans c11.kt)) (.cons r7 .nil))))
        walk_at "g"
        have k812 := c9.kt.trans (c10.kt.trans (c11.kt.trans c12.kt))
        refine ⟨szle (by simp), fun t9 H13 _ ec13 c13 => ?_⟩
        have r9 : Rep K H13 (.ref t9) (.tup _) := .tup (SqT.of ec13) (Reps.kt c13.kt (.cons (r5.kt k812) .nil))
        walk_at "g"
        have lb2 : (encB b).length ≤ 4 := by rw [encB_len]; exact lb
        have c313 : Ch K [d] H3 H13 := (c39.mono (by simp)).trans (c10.trans ((c11.trans (c12.trans c13)).mono (by simp)))
        refine ⟨_, _, rb.kt (c23.kt.trans c313.kt), r9, (by simp only [List.length_cons, List.length_nil]; omega), fun v9 H14 c14 r10 => ?_⟩
        walk_at "g"
        refine ⟨szle (by simp), fun t10 H15 _ ec15 c15 => ?_⟩
        have r11 : Rep K H15 (.ref t10) (.tup _) := .tup (SqT.of ec15) (Reps.kt c15.kt (.cons (.str _) (.cons (r8.kt (c13.trans c14).kt) (.cons r10 .nil))))
        have e := encB_app b [.put (.num i) (.bin .add (.get (.num i)) (.num 1))]
        refine q _ _ (.whl (.bin .less (.get (.num i)) (.num j)) (b ++ [.put (.num i) (.bin .add (.get (.num i)) (.num 1))])) ((c1.trans c23).trans (c313.trans ((c14.trans c15).mono (by simp)))) (D10.ch (c11.trans (c12.trans (c13.trans (c14.trans c15)))) (by simp)) ?_
          ⟨⟨⟨by omega, by omega⟩, ⟨by omega, by omega⟩⟩, by simp [szP], wfBs_app wb (show wfBs nm.toNat ps (m + 1) [.put (.num i) (.bin .add (.get (.num i)) (.num 1))] from ⟨⟨⟨by omega, by omega⟩, ⟨⟨by omega, by omega⟩, by decide, by decide⟩, by simp [szP]⟩, trivial⟩)⟩
        simp only [encDd, encP, e]
        exact r11
end
end K3
end

section
set_option maxRecDepth 100000
set_option maxHeartbeats 1000000
open Bq L2
/-- one step of a reading; what is left are side goals and places to think -/
local macro_rules | `(tactic| walk_at "g1") => `(tactic| first
  | with_reducible refine' g_seq ?_ | with_reducible refine' g_asg ?_ | with_reducible refine' g_drop ?_ | with_reducible refine' g_ret ?_ | with_reducible refine' g_ifS ?_ | with_reducible refine' g_asgG ?_
  | ((with_reducible refine' g_var ?hv ?_); (case hv => rfl))
  | with_reducible refine' g_c ?_ | with_reducible refine' g_op ?_ | with_reducible refine' g_un ?_ | with_reducible refine' g_I0 ?_ | with_reducible refine' g_U ?_
  | with_reducible refine' g_test ?_ | with_reducible refine' g_tB ?_ | with_reducible refine Exists.intro _ (And.intro rfl ?_) 
  | ((with_reducible refine' g_andP ?ha ?hb ?_); (case ha => intro R q; walk_at "g"; exact q); (case hb => intro R q; walk_at "g"; exact q))
  | ((with_reducible refine' g_orP ?ha ?hb ?_); (case ha => intro R q; walk_at "g"; exact q); (case hb => intro R q; walk_at "g"; exact q))
  | with_reducible refine' g_and ?_ | with_reducible refine' g_or ?_ | with_reducible refine' g_not ?_
  | with_reducible refine' g_andV ?_ | with_reducible refine' g_orV ?_ | with_reducible refine' g_notV ?_ | with_reducible refine' g_if ?_ | with_reducible refine' g_nil ?_ | with_reducible refine' g_cons ?_
  | with_reducible refine' g_tup ?_ | with_reducible refine' g_lst ?_ | with_reducible refine' g_CB ?_ | with_reducible refine' g_Fn ?_ | with_reducible refine' g_next ?_ | with_reducible refine' g_retN ?_
  | with_reducible refine' g_name ?_ | with_reducible refine' g_sub ?_
  | ((with_reducible refine' g_ixL ?hs ?he ?_); (case hs => walk_at "lk"); (case he => walk_at "at"))
  | ((with_reducible refine' g_ixT ?hs ?he ?_); (case hs => walk_at "lk"); (case he => walk_at "at"))
  | ((with_reducible refine' g_setL ?hs ?he ?_); (case hs => walk_at "hp"); (case he => rfl))
  | ((with_reducible refine' g_app ?hs ?hz ?_); (case hs => walk_at "hp"); (case hz => walk_at "sz"))
  | ((with_reducible refine' ⟨_, _, rfl, Or.inl ?hs, ?_⟩); (case hs => walk_at "lk"))
  | ((with_reducible refine' ⟨_, _, rfl, Or.inr ?hs, ?_⟩); (case hs => walk_at "lk"))
  | with_reducible refine' g_BM ?_ | with_reducible refine' g_BM0 ?_ | ((with_reducible refine' g_tyL ?hs ?_); (case hs => walk_at "lk"))
  | with_reducible refine' g_sl ?_ | with_reducible refine' g_noPart ?_ | with_reducible refine' g_part ?_
  | ((with_reducible refine' g_inT ?hs ?fx ?fs ?_); (case hs => walk_at "lk"); (case fx => rfl); (case fs => rfl))
  | with_reducible refine' g_pair ?_ | with_reducible refine' g_pair0 ?_ | with_reducible refine' g_disp ?_
  | with_reducible refine' g_for ?_ | with_reducible refine' g_tupC ?_ | with_reducible refine' g_lstC ?_ | ((with_reducible refine' g_lens ?_)) | with_reducible refine' g_dg ?_ | with_reducible refine' g_lc ?_ | with_reducible refine' g_rng1 ?_ | with_reducible refine' g_ilist ?_ | with_reducible refine' g_itup ?_
  | ((with_reducible refine' ⟨_, _, rfl, ?hd, ?_⟩); (case hd => walk_at "dg"))
  | ((with_reducible refine' g_eqNil ?hs ?hz ?_); (case hs => walk_at "lk"); (case hz => walk_at "lk"))
  | ((with_reducible refine' g_neNil ?hs ?hz ?_); (case hs => walk_at "lk"); (case hz => walk_at "lk"))
  | with_reducible refine Or.inl ⟨_, rfl, ?_⟩
  | with_reducible refine Or.inr ⟨_, rfl, ?_⟩
  | ((with_reducible refine' g_eq ?hs ?_); (case hs => rfl))
  | ((with_reducible refine' g_ne ?hs ?_); (case hs => rfl))
  | ((with_reducible refine' g_I ?hc ?_); (case hc => walk_at "ar")))
/-- arithmetic's side conditions -/
local macro_rules | `(tactic| walk_at "ar") => `(tactic| (first
  | (show (0 : Int) < _; first | omega | decide) | (show (0 : Int) < _ ∧ _; constructor <;> omega) | (show ¬ (_ : Int) = _; omega) | (show (_ : Int) ≠ _ ∧ _; constructor <;> omega)
  | (show (-(2 ^ 64) < _ ∧ _) ∨ _; (first | (left; constructor <;> omega) | (right; constructor <;> omega))) | (show (0 : Int) ≤ _ ∧ _ ∧ _; refine ⟨by omega, by omega, by decide⟩)))
/-- what stands at an index -/
local macro_rules | `(tactic| walk_at "at") => `(tactic| first | rfl | assumption)
/-- what stands at an address -/
local macro_rules | `(tactic| walk_at "hp") => `(tactic| first | assumption | exact upd_same | ((refine' Eq.trans (upd_ne ?hn) ?hm); (case hm => walk_at "hp"); (case hn => walk_at "ne")))
/-- two places are two -/
local macro_rules | `(tactic| walk_at "ne") => `(tactic| first
  | assumption | exact Ne.symm (by assumption)
  | ((refine' ne_of_none ?ha ?hb); (case hb => assumption); (case ha => walk_at "hp")) | ((refine' Ne.symm (ne_of_none ?ha ?hb)); (case hb => assumption); (case ha => walk_at "hp")))
/-- what a dict tells -/
local macro_rules | `(tactic| walk_at "dg") => `(tactic| first | assumption)
/-- a length -/
local macro_rules | `(tactic| walk_at "sz") => `(tactic| first | (show _ ≤ sizeLine; decide) | (show _ < sizeLine; decide) | assumption | exact szlt (by simp) | exact szle (by simp))
/-- a list or tuple that stands -/
local macro_rules | `(tactic| walk_at "lk") => `(tactic| first | assumption | exact SqL.of (by assumption) | exact SqT.of (by assumption) | exact SqL.of upd_same | exact SqT.of upd_same | (refine' FzL.sq ?hm; (case hm => walk_at "fz")))
/-- a list that nobody writes -/
local macro_rules | `(tactic| walk_at "fz") => `(tactic| first | assumption | ((refine' FzL.uw ?hm ?hx); (case hx => walk_at "hp"); (case hm => walk_at "fz")) | ((refine' FzL.nw ?hm ?hx); (case hx => assumption); (case hm => walk_at "fz")))
/-- as far as it goes by itself -/
local macro_rules | `(tactic| walk_at "g") => `(tactic| repeat walk_at "g1")
/-- the body's reading, its places in short -/
local macro_rules | `(tactic| walk_at "go") => `(tactic| ((try dsimp only [cxOf, Cx.nox, Cx.wish]); walk_at "g"))
namespace K3
open PySem PySem.Spec PyProof.Rows L2 Bq
section
variable {P : Program} {w : World} {K : PySem.W.Frag} {mg : Str → Option Value} {base : Heap}
theorem body_step (C : Cn w K mg base) (k : Nat) (hk : 28 ≤ k) (dp : Nat) (hdp : dp ≤ 2) (F_law_deed : Fn P w K mg base CX0 k "_law_deed" ["_law_d", "_law_w", "_law_deep"] (spDeed K dp)) :
    Fn P w K mg base CX0 (k + 1) "_law_body" ["_law_d", "_law_w", "_law_deep"] (spBody K dp) := C.f_law_body fun fd F => by
  have F_law_next : Fn P w K mg base CX0 1 "_law_next" ["_law_dice_here", "_law_many"] (spNext K) := fn_next C
  refine F.ok (CX := CX0) sc_law_body (fun vs H Q E h => ?_) (fun cdv A outer s H vs Q E hr h => ?_)
  · obtain ⟨d, wa, nm, pl, ps, rfl, _⟩ := h
    rfl
  · obtain ⟨d, wa, nm, pl, ps, rfl, g, q⟩ := h
    have hu := hu_of (rmm (j := 1) hr)
    refine ⟨_, PSs.nox (pss_one (ps_ret (pe_callTy call_tuple_of (by rfl) (C.m_tuple) (by decide +kernel) (pa_cons (pe_lc (own := [("_law_k", 3)]) (g := gName 3) (tt := tYes) rfl sc_law_body.nd (pi_range1 (by rfl) (C.m_range) (pa_cons (pe_fn F_law_next (rmm hr) (by rfl) pass0 (pa_cons (pv 0) (pa_cons (pe_ix ix_list (pe_lstC (pa_cons pe_int (pa_cons pe_int pa_nil))) (pe_callTy call_int1 (by rfl) (C.m_int) (by decide +kernel) (pa_cons (pe_cmpR op_gt (pv 2) pe_int (nomark _)) pa_nil)) (fun _ _ => rfl)) pa_nil))) pa_nil)) (blkOk_by (own := [("_law_k", 3)]) (N := ["_law_d", "_law_w", "_law_deep", "_law_k"]) (sc := defScope s_law_body) (by decide +kernel)) (fun _ _ _ _ _ => pg_name (i := 3) sc_law_body.nd rfl (Or.inl rfl)) (fun _ _ _ _ _ => pts_nil) (fun _ _ _ _ _ => (pe_fn F_law_deed (rmm hr) (by rfl) pass0 (pa_cons (pv 0) (pa_cons (pv 1) (pa_cons (pv 2) pa_nil)))))) pa_nil)))), ?_⟩
    walk_at "go"
    refine ⟨szle (by simp), fun l H1 nl el c1 => ?_⟩
    walk_at "g"
    obtain ⟨x, hx, m, rfl, m0, m1⟩ := at_all (P := fun v => ∃ m : Int, v = .int m ∧ 3 ≤ m ∧ m ≤ 5) (xs := [V.int 3, V.int 5]) (n := if decide ((1 : Int) < (dp : Nat)) = true then 1 else 0) (by split <;> decide) (by split <;> decide) (by simp)
    walk_at "g"
    have D1 := g.dc.ch c1 (by simp)
    have g1 := g.ch (c1.mono (by simp)) D1
    refine ⟨d, m, rfl, D1, by omega, by omega, fun H2 n c2 D2 n0 n1 => ?_⟩
    have g2 := g1.ch c2 D2
    walk_at "g"
    refine ⟨by omega, by omega, fun D nD => ?_⟩
    have Dn : D ∉ [d] := by simpa using D2.ne nD
    refine lcR1 (fun i H' => Ch K [d] H2 H' ∧ Dice K H' d ∧ ∃ vs b, H' D = some (.lst vs) ∧ vs.length = i ∧ b.length = i ∧ Reps K H' vs (encB b) ∧ wfBs nm.toNat ps (dp + 1) b)
      ⟨Ch.new nD, D2.nw nD, [], [], upd_same, rfl, rfl, .nil, trivial⟩ ?_ ?_
    · rintro i H3 hi ⟨c3, D3, vs, b, eD, lv, lb, reps, wb⟩
      walk_at "g"
      refine ⟨d, wa, nm, pl, ps, rfl, g2.ch c3 D3, fun H4 v D' c4 D4 rep wf => ?_⟩
      have eD4 := c4.up _ _ eD Dn
      have c5 : Ch K [D] H4 (upd H4 D (.lst (vs ++ [v]))) := Ch.wrL eD4 (by simp)
      refine ⟨vs, eD4, Nat.lt_of_le_of_lt (show vs.length ≤ 5 by omega) (by decide), Ch.wrN (c3.trans c4) nD eD4 rfl, D4.ch c5 (by simpa using (D2.ne nD).symm), vs ++ [v], b ++ [D'], upd_same, by simp [lv], by simp [lb], ?_, wfBs_app wb ⟨wf, trivial⟩⟩
      rw [encB_app]
      exact ((reps.kt c4.kt).kt c5.kt).append (.cons (rep.kt c5.kt) .nil)
    · rintro H3 ⟨c3, D3, vs, b, eD, lv, lb, reps, wb⟩
      walk_at "g"
      refine ⟨D, vs, rfl, .inl ⟨SqL.of eD, fun l nl => ?_⟩⟩
      exact q _ _ b ((c1.mono (by simp)).trans (c2.trans (c3.trans (Ch.new nl)))) (D3.nw nl) (.tup (SqT.of upd_same) (reps.kt (Ch.new (S := []) nl).kt)) wb (by omega)
theorem trivFn {x : Str} {ps : List Str} {CX : CXT} {k : Nat} {f : Addr} {fd : FuncData} : FnOk P w K mg base CX k f fd ps (fun _ _ _ _ => False) := ⟨fun _ _ _ _ h => h.elim, fun _ _ _ _ _ _ _ _ _ _ _ _ _ h => h.elim⟩
theorem fn_deed0 (C : Cn w K mg base) : Fn P w K mg base CX0 29 "_law_deed" ["_law_d", "_law_w", "_law_deep"] (spDeed K 0) :=
  deed_step C 28 (Nat.le_refl _) 0 (spB := fun _ _ _ _ => False) (spW := fun _ _ _ _ => False) (C.f_law_body fun fd F => trivFn (x := "")) (C.f_law_while fun fd F => trivFn (x := "")) (fun m h => by omega) (fun h => by omega)
theorem fn_body (C : Cn w K mg base) : ∀ dp : Nat, dp ≤ 2 → Fn P w K mg base CX0 (30 + 3 * dp) "_law_body" ["_law_d", "_law_w", "_law_deep"] (spBody K dp)
  | 0, h => body_step C 29 (by decide) 0 h (fn_deed0 C)
  | dp + 1, h => by
    have B := fn_body C dp (by omega)
    have W := while_step C (30 + 3 * dp) (by omega) dp B
    have D := deed_step C (30 + 3 * dp + 1) (by omega) (dp + 1) (B.mono (by omega)) W (fun m e _ _ _ _ h => by
      have : m = dp := by omega
      rw [← this]
      exact h) (fun _ _ _ _ _ h => h)
    have e : 30 + 3 * (dp + 1) = 30 + 3 * dp + 1 + 1 + 1 := by omega
    rw [e]
    exact body_step C _ (by omega) (dp + 1) h D
end
end K3
end

section
set_option maxRecDepth 100000
set_option maxHeartbeats 1000000
open Bq L2
/-- one step of a reading; what is left are side goals and places to think -/
local macro_rules | `(tactic| walk_at "g1") => `(tactic| first
  | with_reducible refine' g_seq ?_ | with_reducible refine' g_asg ?_ | with_reducible refine' g_drop ?_ | with_reducible refine' g_ret ?_ | with_reducible refine' g_ifS ?_ | with_reducible refine' g_asgG ?_
  | ((with_reducible refine' g_var ?hv ?_); (case hv => rfl))
  | with_reducible refine' g_c ?_ | with_reducible refine' g_op ?_ | with_reducible refine' g_un ?_ | with_reducible refine' g_I0 ?_ | with_reducible refine' g_U ?_
  | with_reducible refine' g_test ?_ | with_reducible refine' g_tB ?_ | with_reducible refine Exists.intro _ (And.intro rfl ?_) 
  | ((with_reducible refine' g_andP ?ha ?hb ?_); (case ha => intro R q; walk_at "g"; exact q); (case hb => intro R q; walk_at "g"; exact q))
  | ((with_reducible refine' g_orP ?ha ?hb ?_); (case ha => intro R q; walk_at "g"; exact q); (case hb => intro R q; walk_at "g"; exact q))
  | with_reducible refine' g_and ?_ | with_reducible refine' g_or ?_ | with_reducible refine' g_not ?_
  | with_reducible refine' g_andV ?_ | with_reducible refine' g_orV ?_ | with_reducible refine' g_notV ?_ | with_reducible refine' g_if ?_ | with_reducible refine' g_nil ?_ | with_reducible refine' g_cons ?_
  | with_reducible refine' g_tup ?_ | with_reducible refine' g_lst ?_ | with_reducible refine' g_CB ?_ | with_reducible refine' g_Fn ?_ | with_reducible refine' g_next ?_ | with_reducible refine' g_retN ?_
  | with_reducible refine' g_name ?_ | with_reducible refine' g_sub ?_
  | ((with_reducible refine' g_ixL ?hs ?he ?_); (case hs => walk_at "lk"); (case he => walk_at "at"))
  | ((with_reducible refine' g_ixT ?hs ?he ?_); (case hs => walk_at "lk"); (case he => walk_at "at"))
  | ((with_reducible refine' g_setL ?hs ?he ?_); (case hs => walk_at "hp"); (case he => rfl))
  | ((with_reducible refine' g_app ?hs ?hz ?_); (case hs => walk_at "hp"); (case hz => walk_at "sz"))
  | ((with_reducible refine' ⟨_, _, rfl, Or.inl ?hs, ?_⟩); (case hs => walk_at "lk"))
  | ((with_reducible refine' ⟨_, _, rfl, Or.inr ?hs, ?_⟩); (case hs => walk_at "lk"))
  | with_reducible refine' g_BM ?_ | with_reducible refine' g_BM0 ?_ | ((with_reducible refine' g_tyL ?hs ?_); (case hs => walk_at "lk"))
  | with_reducible refine' g_sl ?_ | with_reducible refine' g_noPart ?_ | with_reducible refine' g_part ?_
  | ((with_reducible refine' g_inT ?hs ?fx ?fs ?_); (case hs => walk_at "lk"); (case fx => rfl); (case fs => rfl))
  | with_reducible refine' g_pair ?_ | with_reducible refine' g_pair0 ?_ | with_reducible refine' g_disp ?_
  | with_reducible refine' g_for ?_ | with_reducible refine' g_tupC ?_ | with_reducible refine' g_lstC ?_ | ((with_reducible refine' g_lens ?_)) | with_reducible refine' g_dg ?_ | with_reducible refine' g_lc ?_ | with_reducible refine' g_rng1 ?_ | with_reducible refine' g_ilist ?_ | with_reducible refine' g_itup ?_
  | ((with_reducible refine' ⟨_, _, rfl, ?hd, ?_⟩); (case hd => walk_at "dg"))
  | ((with_reducible refine' g_eqNil ?hs ?hz ?_); (case hs => walk_at "lk"); (case hz => walk_at "lk"))
  | ((with_reducible refine' g_neNil ?hs ?hz ?_); (case hs => walk_at "lk"); (case hz => walk_at "lk"))
  | with_reducible refine Or.inl ⟨_, rfl, ?_⟩
  | with_reducible refine Or.inr ⟨_, rfl, ?_⟩
  | ((with_reducible refine' g_eq ?hs ?_); (case hs => rfl))
  | ((with_reducible refine' g_ne ?hs ?_); (case hs => rfl))
  | ((with_reducible refine' g_I ?hc ?_); (case hc => walk_at "ar")))
/-- arithmetic's side conditions -/
local macro_rules | `(tactic| walk_at "ar") => `(tactic| (first
  | (show (0 : Int) < _; first | omega | decide) | (show (0 : Int) < _ ∧ _; constructor <;> omega) | (show ¬ (_ : Int) = _; omega) | (show (_ : Int) ≠ _ ∧ _; constructor <;> omega)
  | (show (-(2 ^ 64) < _ ∧ _) ∨ _; (first | (left; constructor <;> omega) | (right; constructor <;> omega))) | (show (0 : Int) ≤ _ ∧ _ ∧ _; refine ⟨by omega, by omega, by decide⟩)))
/-- what stands at an index -/
local macro_rules | `(tactic| walk_at "at") => `(tactic| first | rfl | assumption)
/-- what stands at an address -/
local macro_rules | `(tactic| walk_at "hp") => `(tactic| first | assumption | exact upd_same | ((refine' Eq.trans (upd_ne ?hn) ?hm); (case hm => walk_at "hp"); (case hn => walk_at "ne")))
/-- two places are two -/
local macro_rules | `(tactic| walk_at "ne") => `(tactic| first
  | assumption | exact Ne.symm (by assumption)
  | ((refine' ne_of_none ?ha ?hb); (case hb => assumption); (case ha => walk_at "hp")) | ((refine' Ne.symm (ne_of_none ?ha ?hb)); (case hb => assumption); (case ha => walk_at "hp")))
/-- what a dict tells -/
local macro_rules | `(tactic| walk_at "dg") => `(tactic| first | assumption)
/-- a length -/
local macro_rules | `(tactic| walk_at "sz") => `(tactic| first | (show _ ≤ sizeLine; decide) | (show _ < sizeLine; decide) | assumption | exact szlt (by simp) | exact szle (by simp))
/-- a list or tuple that stands -/
local macro_rules | `(tactic| walk_at "lk") => `(tactic| first | assumption | exact SqL.of (by assumption) | exact SqT.of (by assumption) | exact SqL.of upd_same | exact SqT.of upd_same | (refine' FzL.sq ?hm; (case hm => walk_at "fz")))
/-- a list that nobody writes -/
local macro_rules | `(tactic| walk_at "fz") => `(tactic| first | assumption | ((refine' FzL.uw ?hm ?hx); (case hx => walk_at "hp"); (case hm => walk_at "fz")) | ((refine' FzL.nw ?hm ?hx); (case hx => assumption); (case hm => walk_at "fz")))
/-- as far as it goes by itself -/
local macro_rules | `(tactic| walk_at "g") => `(tactic| repeat walk_at "g1")
/-- the body's reading, its places in short -/
local macro_rules | `(tactic| walk_at "go") => `(tactic| ((try dsimp only [cxOf, Cx.nox, Cx.wish]); walk_at "g"))
namespace K3
open PySem PySem.Spec PyProof.Rows L2 Bq
section
variable {P : Program} {w : World} {K : PySem.W.Frag} {mg : Str → Option Value} {base : Heap}
def spTower (K : PySem.W.Frag) : Sp := fun vs H Q _ => ∃ d v b nm ps, vs = [.ref d, v] ∧ Dice K H d ∧ Rep K H v (.tup (encB b)) ∧ wfBs nm ps 3 b ∧ b.length ≤ 20 ∧
  ∀ H' v' b', Ch K [d] H H' → Dice K H' d → Rep K H' v' (.tup (encB b')) → wfBs nm ps 8 b' → b'.length ≤ 20 → Q v' H'
theorem fn_tower (C : Cn w K mg base) : Fn P w K mg base CX0 2 "_law_tower" ["_law_d", "_law_body_here"] (spTower K) := C.f_law_tower fun fd F => by
  have F_law_next : Fn P w K mg base CX0 1 "_law_next" ["_law_dice_here", "_law_many"] (spNext K) := fn_next C
  refine F.ok (CX := CX0) sc_law_tower (fun vs H Q E h => ?_) (fun cdv A outer s H vs Q E hr h => ?_)
  · obtain ⟨d, v, b, nm, ps, rfl, _⟩ := h
    rfl
  · obtain ⟨d, v, b, nm, ps, rfl, hD, rb, wb, lb, q⟩ := h
    refine ⟨_, PSs.nox (pss_cons (ps_for PassesOwn.never rfl (pi_range1 (by rfl) (C.m_range) (pa_cons (pe_fn F_law_next (rmm hr) (by rfl) pass0 (pa_cons (pv 0) (pa_cons pe_int pa_nil))) pa_nil)) (pg_name (i := 2) sc_law_tower.nd rfl (Or.inl rfl)) (pss_cons (ps_set (i := 3) sc_law_tower.nd rfl (Or.inl rfl) (pe_tupC (pa_cons pe_str (pa_cons (pe_op op_add pe_int (pv 2)) pa_nil))))
      (pss_cons (ps_set (i := 4) sc_law_tower.nd rfl (Or.inl rfl) (pe_tupC (pa_cons pe_str (pa_cons (pv 3) (pa_cons (pe_tupC (pa_cons pe_str (pa_cons (pe_tupC (pa_cons pe_str (pa_cons (pv 3) pa_nil))) (pa_cons (pe_tupC (pa_cons pe_str (pa_cons pe_int pa_nil))) pa_nil)))) pa_nil)))))
      (pss_cons (ps_set (i := 5) sc_law_tower.nd rfl (Or.inl rfl) (pe_lstC (pa_cons (pe_tupC (pa_cons pe_str (pa_cons (pe_tupC (pa_cons pe_str (pa_cons pe_int pa_nil))) (pa_cons (pv 1) (pa_cons (pe_tupC pa_nil) pa_nil))))) (pa_cons (pe_tupC (pa_cons pe_str (pa_cons (pe_tupC (pa_cons pe_str (pa_cons pe_int pa_nil))) (pa_cons (pe_tupC pa_nil) (pa_cons (pv 1) pa_nil))))) pa_nil))))
      (pss_cons (ps_expr (pe_bm PySem.F.plainAttrs_list PySem.F.slot_list_append PySem.F.type_list_append mt_append (pv 5) (pa_cons (pe_tupC (pa_cons pe_str (pa_cons (pe_tupC (pa_cons pe_str (pa_cons (pe_tupC (pa_cons pe_str (pa_cons (pv 3) pa_nil))) (pa_cons (pe_tupC (pa_cons pe_str (pa_cons (pe_op op_add pe_int (pe_fn F_law_next (rmm hr) (by rfl) pass0 (pa_cons (pv 0) (pa_cons pe_int pa_nil)))) pa_nil))) pa_nil)))) (pa_cons (pe_op op_catR (pv 1) (pe_tupC (pa_cons (pv 4) pa_nil))) pa_nil)))) pa_nil)))
      (pss_one (ps_set (i := 1) sc_law_tower.nd rfl (Or.inl rfl) (pe_tupC (pa_cons (pe_ix ix_list (pv 5) (pe_fn F_law_next (rmm hr) (by rfl) pass0 (pa_cons (pv 0) (pa_cons pe_int pa_nil))) (fun _ _ => rfl)) pa_nil)))))))))
      (pss_one (ps_ret (pv 1)))), ?_⟩
    walk_at "go"
    refine ⟨d, 6, rfl, hD, by decide, by decide, fun H1 n c1 D1 n0 n1 => ?_⟩
    walk_at "g"
    refine ⟨by omega, by omega, ?_⟩
    refine for_rng (fun i σ H' => ∃ v b x2 x3 x4 x5, σ = [some (.ref d), some v, x2, x3, x4, x5] ∧ Ch K [d] H H' ∧ Dice K H' d ∧ Rep K H' v (.tup (encB b)) ∧ wfBs nm ps (3 + i) b ∧ b.length ≤ 20)
      ⟨v, b, none, none, none, none, rfl, c1, D1, rb.kt c1.kt, wb, lb⟩ ?_ ?_
    · clear rb wb lb v b c1 D1
      rintro i σ H2 hi ⟨v, b, x2, x3, x4, x5, rfl, c2, D2, rb, wb, lb⟩
      walk_at "g"
      refine ⟨szle (by simp), fun t1 H3 _ e1 k1 => ?_⟩
      have r1 : Rep K H3 (.ref t1) (encP (.num (50 + (i : Nat)))) := .tup (SqT.of e1) (.cons (.str _) (.cons (.int _) .nil))
      walk_at "g"
      refine ⟨szle (by simp), fun t2 H4 _ e2 k2 => ?_⟩
      have r2 : Rep K H4 (.ref t2) (encP (.get (.num (50 + (i : Nat))))) := .tup (SqT.of e2) (.cons (.str _) (.cons (r1.kt k2.kt) .nil))
      walk_at "g"
      refine ⟨szle (by simp), fun t3 H5 _ e3 k3 => ?_⟩
      have r3 : Rep K H5 (.ref t3) (encP (.num 1)) := .tup (SqT.of e3) (.cons (.str _) (.cons (.int _) .nil))
      walk_at "g"
      refine ⟨szle (by simp), fun t4 H6 _ e4 k4 => ?_⟩
      have r4 : Rep K H6 (.ref t4) (encP (.bin .add (.get (.num (50 + (i : Nat)))) (.num 1))) := .tup (SqT.of e4) (.cons (.str _) (.cons (r2.kt (k3.trans k4).kt) (.cons (r3.kt k4.kt) .nil)))
      walk_at "g"
      refine ⟨szle (by simp), fun t5 H7 _ e5 k5 => ?_⟩
      have r5 : Rep K H7 (.ref t5) (encDd (.put (.num (50 + (i : Nat))) (.bin .add (.get (.num (50 + (i : Nat)))) (.num 1)))) := .tup (SqT.of e5) (.cons (.str _) (.cons (r1.kt (k2.trans (k3.trans (k4.trans k5))).kt) (.cons (r4.kt k5.kt) .nil)))
      walk_at "g"
      refine ⟨szle (by simp), fun t6 H8 _ e6 k6 => ?_⟩
      have r6 : Rep K H8 (.ref t6) (encP (.num 1)) := .tup (SqT.of e6) (.cons (.str _) (.cons (.int _) .nil))
      walk_at "g"
      refine ⟨szle (by simp), fun t7 H9 _ e7 k7 => ?_⟩
      have r7 : Rep K H9 (.ref t7) (.tup (encB [])) := .tup (SqT.of e7) .nil
      walk_at "g"
      have c29 := k1.trans (k2.trans (k3.trans (k4.trans (k5.trans (k6.trans k7)))))
      refine ⟨szle (by simp), fun t8 H10 _ e8 k8 => ?_⟩
      have r8 : Rep K H10 (.ref t8) (encDd (.ite (.num 1) b [])) := .tup (SqT.of e8) (.cons (.str _) (.cons (r6.kt (k7.trans k8).kt) (.cons (rb.kt (c29.trans k8).kt) (.cons (r7.kt k8.kt) .nil))))
      walk_at "g"
      refine ⟨szle (by simp), fun t9 H11 _ e9 k9 => ?_⟩
      have r9 : Rep K H11 (.ref t9) (encP (.num 0)) := .tup (SqT.of e9) (.cons (.str _) (.cons (.int _) .nil))
      walk_at "g"
      refine ⟨szle (by simp), fun t10 H12 _ e10 k10 => ?_⟩
      have r10 : Rep K H12 (.ref t10) (.tup (encB [])) := .tup (SqT.of e10) .nil
      walk_at "g"
      refine ⟨szle (by simp), fun t11 H13 _ e11 k11 => ?_⟩
      have c213 := c29.trans (k8.trans (k9.trans (k10.trans k11)))
      have r11 : Rep K H13 (.ref t11) (encDd (.ite (.num 0) [] b)) := .tup (SqT.of e11) (.cons (.str _) (.cons (r9.kt (k10.trans k11).kt) (.cons (r10.kt k11.kt) (.cons (rb.kt c213.kt) .nil))))
      walk_at "g"
      refine ⟨szle (by simp), fun l H14 nl el k12 => ?_⟩
      have c214 := c213.trans k12
      have D14 := D2.ch c214 (by simp)
      have rd1 := r8.kt (k9.trans (k10.trans (k11.trans k12))).kt
      have rd2 := r11.kt k12.kt
      walk_at "g"
      refine ⟨szle (by simp), fun t15 H15 _ e15 k15 => ?_⟩
      have k115 : Kt K H3 H15 := k2.kt.trans (k3.kt.trans (k4.kt.trans (k5.kt.trans (k6.kt.trans (k7.kt.trans (k8.kt.trans (k9.kt.trans (k10.kt.trans (k11.kt.trans (k12.kt.trans k15.kt))))))))))
      have r15 : Rep K H15 (.ref t15) (encP (.get (.num (50 + (i : Nat))))) := .tup (SqT.of e15) (.cons (.str _) (.cons (r1.kt k115) .nil))
      have D15 := D14.ch k15 (by simp)
      walk_at "g"
      refine ⟨d, 2, rfl, D15, by decide, by decide, fun H16 j c16 D16 j0 j1 => ?_⟩
      have el15 := k15.up _ _ el (by simp)
      have ln : l ∉ [d] := by simpa using (D2.ch c213 (by simp)).ne nl
      have el16 := c16.up _ _ el15 ln
      walk_at "g"
      refine ⟨szle (by simp), fun t17 H17 _ e17 k17 => ?_⟩
      have r17 : Rep K H17 (.ref t17) (encP (.num (1 + j))) := .tup (SqT.of e17) (.cons (.str _) (.cons (.int _) .nil))
      walk_at "g"
      refine ⟨szle (by simp), fun t18 H18 _ e18 k18 => ?_⟩
      have r18 : Rep K H18 (.ref t18) (encP (.bin .less (.get (.num (50 + (i : Nat)))) (.num (1 + j)))) := .tup (SqT.of e18) (.cons (.str _) (.cons (r15.kt (c16.kt.trans (k17.trans k18).kt)) (.cons (r17.kt k18.kt) .nil)))
      walk_at "g"
      refine ⟨szle (by simp), fun t19 H19 _ e19 k19 => ?_⟩
      have k519 : Kt K H7 H19 := k6.kt.trans (k7.kt.trans (k8.kt.trans (k9.kt.trans (k10.kt.trans (k11.kt.trans (k12.kt.trans (k15.kt.trans (c16.kt.trans (k17.kt.trans (k18.kt.trans k19.kt))))))))))
      have r19 : Rep K H19 (.ref t19) (.tup (encB [.put (.num (50 + (i : Nat))) (.bin .add (.get (.num (50 + (i : Nat)))) (.num 1))])) := .tup (SqT.of e19) (.cons (r5.kt k519) .nil)
      walk_at "g"
      have c219 : Ch K [d] H2 H19 := ((c214.trans k15).mono (by simp)).trans (c16.trans ((k17.trans (k18.trans k19)).mono (by simp)))
      have lb2 : (encB b).length ≤ 20 := by rw [encB_len]; exact lb
      refine ⟨_, _, rb.kt c219.kt, r19, (by rw [encB_len [_]]; simp only [List.length_cons, List.length_nil]; omega), fun v20 H20 k20 r20 => ?_⟩
      rw [← encB_app] at r20
      walk_at "g"
      refine ⟨szle (by simp), fun t21 H21 _ e21 k21 => ?_⟩
      have r21 : Rep K H21 (.ref t21) (encDd (.whl (.bin .less (.get (.num (50 + (i : Nat)))) (.num (1 + j))) (b ++ [.put (.num (50 + (i : Nat))) (.bin .add (.get (.num (50 + (i : Nat)))) (.num 1))]))) :=
        .tup (SqT.of e21) (.cons (.str _) (.cons (r18.kt (k19.trans (k20.trans k21)).kt) (.cons (r20.kt k21.kt) .nil)))
      have el21 := (k17.trans (k18.trans (k19.trans (k20.trans k21)))).up _ _ el16 (by simp)
      walk_at "g"
      have c221 : Ch K [d] H2 H21 := c219.trans ((k20.trans k21).mono (by simp))
      have D21 : Dice K H21 d := D16.ch (k17.trans (k18.trans (k19.trans (k20.trans k21)))) (by simp)
      have hl0 : H l = none := (c2.trans (c213.mono (by simp))).free nl ln
      have cU : Ch K [d] H (upd H21 l (.lst ([V.ref t8, V.ref t11] ++ [V.ref t21]))) := Ch.wrN (c2.trans c221) hl0 el21 rfl
      have kU : Ch K [l] H21 (upd H21 l (.lst ([V.ref t8, V.ref t11] ++ [V.ref t21]))) := Ch.wrL el21 (by simp)
      have DU := D21.ch kU (by simpa using ((D2.ch c213 (by simp)).ne nl).symm)
      refine ⟨d, 3, rfl, DU, by decide, by decide, fun H22 j2 c22 D22 j20 j21 => ?_⟩
      have el22 := c22.up _ _ (upd_same (H := H21) (a := l)) ln
      have k22 := kU.kt.trans c22.kt
      have k1422 : Kt K H14 H22 := k15.kt.trans (c16.kt.trans (k17.kt.trans (k18.kt.trans (k19.kt.trans (k20.kt.trans (k21.kt.trans k22))))))
      obtain ⟨x, hx, D', rx, wx⟩ : ∃ x, atI [V.ref t8, V.ref t11, V.ref t21] j2 = some x ∧ ∃ D', Rep K H22 x (encDd D') ∧ wfD nm ps (3 + i) D' := by
        rcases (show j2 = 0 ∨ j2 = 1 ∨ j2 = 2 by omega) with rfl | rfl | rfl
        · exact ⟨_, rfl, _, rd1.kt k1422, ⟨by decide, by decide⟩, by simp [szP], wb, by unfold wfBs; trivial⟩
        · exact ⟨_, rfl, _, rd2.kt k1422, ⟨by decide, by decide⟩, by simp [szP], by unfold wfBs; trivial, wb⟩
        · refine ⟨_, rfl, _, r21.kt k22, ⟨⟨by omega, by omega⟩, ⟨by omega, by omega⟩⟩, by simp [szP], ?_⟩
          rw [show 3 + i = 2 + i + 1 by omega] at wb ⊢
          exact wfBs_app wb (show wfBs nm ps (2 + i + 1) [.put (.num (50 + (i : Nat))) (.bin .add (.get (.num (50 + (i : Nat)))) (.num 1))] from ⟨⟨⟨by omega, by omega⟩, ⟨⟨by omega, by omega⟩, by decide, by decide⟩, by simp [szP]⟩, trivial⟩)
      walk_at "g"
      refine ⟨szle (by simp), fun t23 H23 _ e23 k23 => ?_⟩
      exact ⟨_, [D'], _, _, _, _, rfl, cU.trans (c22.trans (k23.mono (by simp))), D22.ch k23 (by simp), .tup (SqT.of e23) (.cons (rx.kt k23.kt) .nil), (show wfBs nm ps (3 + i + 1) [D'] from ⟨wx, trivial⟩), by simp⟩
    · rintro σ H2 ⟨v, b, x2, x3, x4, x5, rfl, c2, D2, rb, wb, lb⟩
      walk_at "g"
      exact q _ _ b c2 D2 rb (wfBs_mono (by omega) wb) lb
end
end K3
end

section
set_option maxRecDepth 100000
set_option maxHeartbeats 1000000
open Bq L2
/-- one step of a reading; what is left are side goals and places to think -/
local macro_rules | `(tactic| walk_at "g1") => `(tactic| first
  | with_reducible refine' g_seq ?_ | with_reducible refine' g_asg ?_ | with_reducible refine' g_drop ?_ | with_reducible refine' g_ret ?_ | with_reducible refine' g_ifS ?_ | with_reducible refine' g_asgG ?_
  | ((with_reducible refine' g_var ?hv ?_); (case hv => rfl))
  | with_reducible refine' g_c ?_ | with_reducible refine' g_op ?_ | with_reducible refine' g_un ?_ | with_reducible refine' g_I0 ?_ | with_reducible refine' g_U ?_
  | with_reducible refine' g_test ?_ | with_reducible refine' g_tB ?_ | with_reducible refine Exists.intro _ (And.intro rfl ?_) 
  | ((with_reducible refine' g_andP ?ha ?hb ?_); (case ha => intro R q; walk_at "g"; exact q); (case hb => intro R q; walk_at "g"; exact q))
  | ((with_reducible refine' g_orP ?ha ?hb ?_); (case ha => intro R q; walk_at "g"; exact q); (case hb => intro R q; walk_at "g"; exact q))
  | with_reducible refine' g_and ?_ | with_reducible refine' g_or ?_ | with_reducible refine' g_not ?_
  | with_reducible refine' g_andV ?_ | with_reducible refine' g_orV ?_ | with_reducible refine' g_notV ?_ | with_reducible refine' g_if ?_ | with_reducible refine' g_nil ?_ | with_reducible refine' g_cons ?_
  | with_reducible refine' g_tup ?_ | with_reducible refine' g_lst ?_ | with_reducible refine' g_CB ?_ | with_reducible refine' g_Fn ?_ | with_reducible refine' g_next ?_ | with_reducible refine' g_retN ?_
  | with_reducible refine' g_name ?_ | with_reducible refine' g_sub ?_
  | ((with_reducible refine' g_ixL ?hs ?he ?_); (case hs => walk_at "lk"); (case he => walk_at "at"))
  | ((with_reducible refine' g_ixT ?hs ?he ?_); (case hs => walk_at "lk"); (case he => walk_at "at"))
  | ((with_reducible refine' g_setL ?hs ?he ?_); (case hs => walk_at "hp"); (case he => rfl))
  | ((with_reducible refine' g_app ?hs ?hz ?_); (case hs => walk_at "hp"); (case hz => walk_at "sz"))
  | ((with_reducible refine' ⟨_, _, rfl, Or.inl ?hs, ?_⟩); (case hs => walk_at "lk"))
  | ((with_reducible refine' ⟨_, _, rfl, Or.inr ?hs, ?_⟩); (case hs => walk_at "lk"))
  | with_reducible refine' g_BM ?_ | with_reducible refine' g_BM0 ?_ | ((with_reducible refine' g_tyL ?hs ?_); (case hs => walk_at "lk"))
  | with_reducible refine' g_sl ?_ | with_reducible refine' g_noPart ?_ | with_reducible refine' g_part ?_
  | ((with_reducible refine' g_inT ?hs ?fx ?fs ?_); (case hs => walk_at "lk"); (case fx => rfl); (case fs => rfl))
  | with_reducible refine' g_pair ?_ | with_reducible refine' g_pair0 ?_ | with_reducible refine' g_disp ?_
  | with_reducible refine' g_for ?_ | with_reducible refine' g_tupC ?_ | with_reducible refine' g_lstC ?_ | ((with_reducible refine' g_lens ?_)) | with_reducible refine' g_dg ?_ | with_reducible refine' g_lc ?_ | with_reducible refine' g_rng1 ?_ | with_reducible refine' g_ilist ?_ | with_reducible refine' g_itup ?_
  | ((with_reducible refine' ⟨_, _, rfl, ?hd, ?_⟩); (case hd => walk_at "dg"))
  | ((with_reducible refine' g_eqNil ?hs ?hz ?_); (case hs => walk_at "lk"); (case hz => walk_at "lk"))
  | ((with_reducible refine' g_neNil ?hs ?hz ?_); (case hs => walk_at "lk"); (case hz => walk_at "lk"))
  | with_reducible refine Or.inl ⟨_, rfl, ?_⟩
  | with_reducible refine Or.inr ⟨_, rfl, ?_⟩
  | ((with_reducible refine' g_eq ?hs ?_); (case hs => rfl))
  | ((with_reducible refine' g_ne ?hs ?_); (case hs => rfl))
  | ((with_reducible refine' g_I ?hc ?_); (case hc => walk_at "ar")))
/-- arithmetic's side conditions -/
local macro_rules | `(tactic| walk_at "ar") => `(tactic| (first
  | (show (0 : Int) < _; first | omega | decide) | (show (0 : Int) < _ ∧ _; constructor <;> omega) | (show ¬ (_ : Int) = _; omega) | (show (_ : Int) ≠ _ ∧ _; constructor <;> omega)
  | (show (-(2 ^ 64) < _ ∧ _) ∨ _; (first | (left; constructor <;> omega) | (right; constructor <;> omega))) | (show (0 : Int) ≤ _ ∧ _ ∧ _; refine ⟨by omega, by omega, by decide⟩)))
/-- what stands at an index -/
local macro_rules | `(tactic| walk_at "at") => `(tactic| first | rfl | assumption)
/-- what stands at an address -/
local macro_rules | `(tactic| walk_at "hp") => `(tactic| first | assumption | exact upd_same | ((refine' Eq.trans (upd_ne ?hn) ?hm); (case hm => walk_at "hp"); (case hn => walk_at "ne")))
/-- two places are two -/
local macro_rules | `(tactic| walk_at "ne") => `(tactic| first
  | assumption | exact Ne.symm (by assumption)
  | ((refine' ne_of_none ?ha ?hb); (case hb => assumption); (case ha => walk_at "hp")) | ((refine' Ne.symm (ne_of_none ?ha ?hb)); (case hb => assumption); (case ha => walk_at "hp")))
/-- what a dict tells -/
local macro_rules | `(tactic| walk_at "dg") => `(tactic| first | assumption)
/-- a length -/
local macro_rules | `(tactic| walk_at "sz") => `(tactic| first | (show _ ≤ sizeLine; decide) | (show _ < sizeLine; decide) | assumption | exact szlt (by simp) | exact szle (by simp))
/-- a list or tuple that stands -/
local macro_rules | `(tactic| walk_at "lk") => `(tactic| first | assumption | exact SqL.of (by assumption) | exact SqT.of (by assumption) | exact SqL.of upd_same | exact SqT.of upd_same | (refine' FzL.sq ?hm; (case hm => walk_at "fz")))
/-- a list that nobody writes -/
local macro_rules | `(tactic| walk_at "fz") => `(tactic| first | assumption | ((refine' FzL.uw ?hm ?hx); (case hx => walk_at "hp"); (case hm => walk_at "fz")) | ((refine' FzL.nw ?hm ?hx); (case hx => assumption); (case hm => walk_at "fz")))
/-- as far as it goes by itself -/
local macro_rules | `(tactic| walk_at "g") => `(tactic| repeat walk_at "g1")
/-- the body's reading, its places in short -/
local macro_rules | `(tactic| walk_at "go") => `(tactic| ((try dsimp only [cxOf, Cx.nox, Cx.wish]); walk_at "g"))
namespace K3
open PySem PySem.Spec PyProof.Rows L2 Bq
section
variable {P : Program} {w : World} {K : PySem.W.Frag} {mg : Str → Option Value} {base : Heap}
structure WfFu (ps : List Nat) (f : Fu) : Prop where
  p4 : f.ps ≤ 4
  pn : f.ps ≤ f.nm
  n8 : f.nm ≤ 8
  wb : wfBs f.nm ps 8 f.body
  sz : szB f.body ≤ 190
structure WfPr (fs : List Fu) : Prop where
  n1 : 1 ≤ fs.length
  n8 : fs.length ≤ 8
  f0 : ∀ f, fs[0]? = some f → f.ps = 0
  all : ∀ f ∈ fs, WfFu (fs.map Fu.ps) f
mutual
theorem wfP_ps {nm : Nat} {ps : List Nat} : ∀ {p : Pt}, wfP nm [] p → wfP nm ps p
  | .num _, q => q
  | .name _, q => q
  | .bin _ a b, q => ⟨wfP_ps q.1, wfP_ps q.2⟩
  | .nt a, q => wfP_ps (p := a) q
  | .get a, q => wfP_ps (p := a) q
  | .call f qs, q => by have := q.1; simp at this
end
mutual
theorem wfD_ps {nm : Nat} {ps : List Nat} : ∀ {n : Nat} {d : Dd}, wfD nm [] n d → wfD nm ps n d
  | _, .set _ _, h => ⟨h.1, wfP_ps h.2.1, h.2.2⟩
  | _, .put _ _, h => ⟨wfP_ps h.1, wfP_ps h.2.1, h.2.2⟩
  | _, .say _, h => ⟨wfP_ps h.1, h.2⟩
  | _, .ite _ _ _, h => ⟨wfP_ps h.1, h.2.1, wfBs_ps h.2.2.1, wfBs_ps h.2.2.2⟩
  | _, .whl _ _, h => ⟨wfP_ps h.1, h.2.1, wfBs_ps h.2.2⟩
  | _, .ret _, h => ⟨wfP_ps h.1, h.2⟩
  | _, .dop _, h => ⟨wfP_ps h.1, h.2⟩
theorem wfBs_ps {nm : Nat} {ps : List Nat} : ∀ {n : Nat} {b : List Dd}, wfBs nm [] n b → wfBs nm ps n b
  | _, [], _ => by unfold wfBs; trivial
  | 0, _ :: _, h => h.elim
  | n + 1, d :: r, h => ⟨wfD_ps h.1, wfBs_ps h.2⟩
end
def spProgram (K : PySem.W.Frag) : Sp := fun vs H Q _ => ∃ d, vs = [.ref d] ∧ Dice K H d ∧
  ∀ H' v fs, Ch K [d] H H' → Dice K H' d → Rep K H' v (.tup (fs.map encF)) → WfPr fs → Q v H'
theorem next_use {H : Hp} {Q : VK} {E : XK} {d : Addr} {m : Int} (D : Dice K H d) (m0 : 0 < m) (m1 : m < 1073741824)
    (k : ∀ H' n, Ch K [d] H H' → Dice K H' d → 0 ≤ n → n < m → Q (.int n) H') : spNext K [.ref d, .int m] H Q E := ⟨d, m, rfl, D, m0, m1, k⟩
theorem encB_take : ∀ (b : List Dd) (n : Nat), (encB b).take n = encB (b.take n)
  | _, 0 => rfl
  | [], _ + 1 => rfl
  | d :: r, n + 1 => congrArg (encDd d :: ·) (encB_take r n)
theorem wfBs_take {nm : Nat} {ps : List Nat} {m : Nat} : ∀ {b : List Dd} (n : Nat), wfBs nm ps m b → wfBs nm ps m (b.take n)
  | _, 0, _ => by unfold wfBs; trivial
  | [], _ + 1, h => h
  | d :: r, n + 1, h => by
    cases m with
    | zero => exact h.elim
    | succ m => exact ⟨h.1, wfBs_take n h.2⟩
theorem thT_tB (b : List Dd) : thT (.tup (encB b)) = szB b := by
  show ownT (encB b) + thTs (encB b) = _
  rw [ownT_B, thT_B, Nat.zero_add]
theorem fn_program (C : Cn w K mg base) : Fn P w K mg base CX0 98 "_law_program" ["_law_d"] (spProgram K) := C.f_law_program fun fd F => by
  have F_law_next : Fn P w K mg base CX0 1 "_law_next" ["_law_dice_here", "_law_many"] (spNext K) := fn_next C
  have F_law_body : Fn P w K mg base CX0 36 "_law_body" ["_law_d", "_law_w", "_law_deep"] (spBody K 2) := fn_body C 2 (by decide)
  have F_law_tower : Fn P w K mg base CX0 2 "_law_tower" ["_law_d", "_law_body_here"] (spTower K) := fn_tower C
  have F_law_things : Fn P w K mg base CX0 97 "_law_things" ["_law_thing"] (spThings K 96) := fn_things C 96
  refine F.ok (CX := CX0) sc_law_program (fun vs H Q E h => ?_) (fun cdv A outer s H vs Q E hr h => ?_)
  · obtain ⟨d, rfl, _⟩ := h
    rfl
  · obtain ⟨d, rfl, D, q⟩ := h
    have hu := hu_of (rmm (j := 1) hr)
    refine ⟨_, PSs.nox (pss_cons (ps_set (i := 1) sc_law_program.nd rfl (Or.inl rfl) (pe_op op_add pe_int (pe_fn F_law_next (rmm hr) (by rfl) pass0 (pa_cons (pv 0) (pa_cons (pe_ix ix_list (pe_lstC (pa_cons pe_int (pa_cons pe_int (pa_cons pe_int pa_nil)))) (pe_fn F_law_next (rmm hr) (by rfl) pass0 (pa_cons (pv 0) (pa_cons pe_int pa_nil))) (fun _ _ => rfl)) pa_nil)))))
      (pss_cons (ps_set (i := 3) sc_law_program.nd rfl (Or.inl rfl) (pe_op op_catL (pe_lstC (pa_cons pe_int pa_nil)) (pe_lc (own := [("_law_k", 2)]) (g := gName 2) (tt := tYes) rfl sc_law_program.nd (pi_range1 (by rfl) (C.m_range) (pa_cons (pe_op op_sub (pv 1) pe_int) pa_nil)) (blkOk_by (own := [("_law_k", 2)]) (N := ["_law_d", "_law_many", "_law_k", "_law_params", "_law_found", "_law_names", "_law_w", "_law_body_here"]) (sc := defScope s_law_program) (by decide +kernel)) (fun _ _ _ _ _ => pg_name (i := 2) sc_law_program.nd rfl (Or.inl rfl)) (fun _ _ _ _ _ => pts_nil) (fun _ _ _ _ _ => (pe_fn F_law_next (rmm hr) (by rfl) pass0 (pa_cons (pv 0) (pa_cons (pe_ix (ix_listK K) (pe_lstCK K (pa_cons pe_int (pa_cons pe_int pa_nil))) (pe_fn F_law_next (rmm hr) (by rfl) pass0 (pa_cons (pv 0) (pa_cons pe_int pa_nil))) (fun _ _ => rfl)) pa_nil)))))))
      (pss_cons (ps_set (i := 4) sc_law_program.nd rfl (Or.inl rfl) (pe_lstC pa_nil))
      (pss_cons (ps_for PassesOwn.never rfl (pi_range1 (by rfl) (C.m_range) (pa_cons (pv 1) pa_nil)) (pg_name (i := 2) sc_law_program.nd rfl (Or.inl rfl)) (pss_cons (ps_set (i := 5) sc_law_program.nd rfl (Or.inl rfl) (pe_callB (call_min2 rfl) (by rfl) (C.m_min) (by decide +kernel) (pa_cons pe_int (pa_cons (pe_op op_add (pe_ix ix_list (pv 3) (pv 2) (fun _ _ => rfl)) (pe_fn F_law_next (rmm hr) (by rfl) pass0 (pa_cons (pv 0) (pa_cons pe_int pa_nil)))) pa_nil))))
      (pss_cons (ps_set (i := 6) sc_law_program.nd rfl (Or.inl rfl) (pe_disp (pps_cons pe_str (pv 5) (pps_cons pe_str (pe_mid (pe_ifExp (pt_cmpR op_eq (pe_fn F_law_next (rmm hr) (by rfl) pass0 (pa_cons (pv 0) (pa_cons pe_int pa_nil))) pe_int (nomark _)) (pe_lstC pa_nil) (pv 3))) pps_nil)) (by rfl) (by rfl) (fun z => by cases z) (by decide)))
      (pss_cons (ps_set (i := 7) sc_law_program.nd rfl (Or.inl rfl) (pe_op op_catR (pe_fn F_law_body (rmm hr) (by rfl) pass0 (pa_cons (pv 0) (pa_cons (pv 6) (pa_cons pe_int pa_nil)))) (pe_slice sl_tupR (by exact (pe_callTy call_tuple_of (by rfl) (C.m_tuple) (by decide +kernel) (pa_cons (pe_lc (own := [("_law_k", 2)]) (g := gName 2) (tt := tYes) rfl sc_law_program.nd (pi_range1 (by rfl) (C.m_range) (pa_cons (pv 5) pa_nil)) (blkOk_by (own := [("_law_k", 2)]) (N := ["_law_d", "_law_many", "_law_k", "_law_params", "_law_found", "_law_names", "_law_w", "_law_body_here"]) (sc := defScope s_law_program) (by decide +kernel)) (fun _ _ _ _ _ => pg_name (i := 2) sc_law_program.nd rfl (Or.inl rfl)) (fun _ _ _ _ _ => pts_nil) (fun _ _ _ _ _ => (pe_tupCK K (pa_cons pe_str (pa_cons (pe_tupCK K (pa_cons pe_str (pa_cons (pv 2) pa_nil))) pa_nil))))) pa_nil))) po_none (po_some (pe_fn F_law_next (rmm hr) (by rfl) pass0 (pa_cons (pv 0) (pa_cons pe_int pa_nil)))))))
      (Evl.pss_cut (ps_if (pt_mid (PW.pt (pw_and (pt_cmpR op_eq (pe_fn F_law_next (rmm hr) (by rfl) pass0 (pa_cons (pv 0) (pa_cons pe_int pa_nil))) pe_int (nomark _)) (pw_and1 (pt_cmpR op_lt (pe_fn F_law_things (rmm hr) (by rfl) pass0 (pa_cons (pv 7) pa_nil)) pe_int (nomark _)))))) (pss_one (ps_set (i := 7) sc_law_program.nd rfl (Or.inl rfl) (pe_fn F_law_tower (rmm hr) (by rfl) pass0 (pa_cons (pv 0) (pa_cons (pv 7) pa_nil))))) pss_nil)
      (pss_cons (ps_while PassesOwn.never (pt_cmpR op_gt (pe_fn F_law_things (rmm hr) (by rfl) pass0 (pa_cons (pv 7) pa_nil)) pe_int (nomark _)) (pss_one (ps_set (i := 7) sc_law_program.nd rfl (Or.inl rfl) (pe_slice sl_tupR (pv 7) (po_some pe_int) po_none))))
      (pss_one (ps_expr (pe_bm PySem.F.plainAttrs_list PySem.F.slot_list_append PySem.F.type_list_append mt_append (pv 4) (pa_cons (pe_tupC (pa_cons (pe_ix ix_list (pv 3) (pv 2) (fun _ _ => rfl)) (pa_cons (pv 5) (pa_cons (pv 7) pa_nil)))) pa_nil))))))))))
      (pss_one (ps_ret (pe_callTy call_tuple_of (by rfl) (C.m_tuple) (by decide +kernel) (pa_cons (pv 4) pa_nil)))))))), ?_⟩
    walk_at "go"
    refine ⟨szle (by simp), fun l1 H1 n1 e1 c1 => ?_⟩
    have l1d : l1 ∉ [d] := by simpa using D.ne n1
    walk_at "g"
    refine next_use (D.ch c1 (by simp)) (by decide) (by decide) fun H2 i2 c2 D2 i20 i21 => ?_
    have e2 := c2.up _ _ e1 l1d
    obtain ⟨x, hx, m, rfl, m0, m1⟩ := at_all (P := fun v => ∃ m : Int, v = .int m ∧ 1 ≤ m ∧ m ≤ 8) (xs := [V.int 1, V.int 4, V.int 8]) (n := i2) i20 (by simpa using i21) (by simp)
    walk_at "g"
    refine next_use D2 (by omega) (by omega) fun H3 n c3 D3 n0 n3 => ?_
    have c13 : Ch K [d] H H3 := (c1.mono (by simp)).trans (c2.trans c3)
    walk_at "g"
    refine ⟨szle (by simp), fun p0 H4 np0 e4 c4 => ?_⟩
    have p0d : p0 ∉ [d] := by simpa using D3.ne np0
    have D4 := D3.ch c4 (by simp)
    walk_at "g"
    refine ⟨by omega, by omega, fun Dc nD => ?_⟩
    have Dn : Dc ∉ [d] := by simpa using D4.ne nD
    refine lcR1 (fun i H' => Ch K [d] H4 H' ∧ Dice K H' d ∧ ∃ ns : List Nat, H' Dc = some (.lst (ns.map fun n => V.int (n : Nat))) ∧ ns.length = i ∧ ∀ n ∈ ns, n ≤ 4)
      ⟨Ch.new nD, D4.nw nD, [], upd_same, rfl, by simp⟩ ?_ ?_
    · rintro i H5 hi ⟨c5, D5, ns, eD, ln, l4⟩
      walk_at "g"
      refine ⟨szle (by simp), fun l6 H6 n6 e6 c6 => ?_⟩
      have l6d : l6 ∉ [d] := by simpa using D5.ne n6
      walk_at "g"
      refine next_use (D5.ch c6 (by simp)) (by decide) (by decide) fun H7 i7 c7 D7 i70 i71 => ?_
      have e7 := c7.up _ _ e6 l6d
      obtain ⟨x, hx, m', rfl, m0', m1'⟩ := at_all (P := fun v => ∃ m : Int, v = .int m ∧ 3 ≤ m ∧ m ≤ 5) (xs := [V.int 3, V.int 5]) (n := i7) i70 (by simpa using i71) (by simp)
      walk_at "g"
      refine next_use D7 (by omega) (by omega) fun H8 n8 c8 D8 n80 n81 => ?_
      have c58 : Ch K [d] H5 H8 := (c6.mono (by simp)).trans (c7.trans c8)
      have eD8 := c58.up _ _ eD Dn
      have c9 : Ch K [Dc] H8 (upd H8 Dc (.lst ((ns.map fun n => V.int (n : Nat)) ++ [.int n8]))) := Ch.wrL eD8 (by simp)
      refine ⟨_, eD8, ?_, Ch.wrN (c5.trans c58) nD eD8 rfl, D8.ch c9 (by simpa using (D4.ne nD).symm), ns ++ [n8.toNat], ?_, by simp [ln], ?_⟩
      · exact Nat.lt_of_le_of_lt (show _ ≤ 10 by rw [List.length_map]; omega) (by decide)
      · rw [upd_same, List.map_append]
        have e8 : ((n8.toNat : Nat) : Int) = n8 := by omega
        simp only [List.map_cons, List.map_nil, e8]
      · intro k hk
        rw [List.mem_append] at hk
        rcases hk with hk | hk
        · exact l4 k hk
        · simp at hk
          omega
    rintro H5 ⟨c5, D5, ns, eD, ln, l4⟩
    have e5 := c5.up _ _ e4 p0d
    refine ⟨p0, Dc, _, _, rfl, rfl, e5, eD, Nat.le_trans (show _ ≤ 10 by simp only [List.length_cons, List.length_nil, List.length_map]; omega) (by decide), fun pl H6 npl epl c6 => ?_⟩
    have pld : pl ∉ [d] := by simpa using D5.ne npl
    have epl' : H6 pl = some (.lst ((0 :: ns).map fun n => V.int (n : Nat))) := epl
    obtain ⟨pps, hpps⟩ : ∃ pps, pps = 0 :: ns := ⟨_, rfl⟩
    have lpps : (pps.length : Int) = 1 + n := by rw [hpps, List.length_cons]; omega
    have p40 : ∀ n ∈ pps, n ≤ 4 := by
      rw [hpps]
      intro k hk
      rcases List.mem_cons.mp hk with rfl | hk
      · omega
      · exact l4 k hk
    have p00 : pps[0]? = some 0 := by rw [hpps]; rfl
    rw [← hpps] at epl'
    clear epl e5 eD l4
    have c16 : Ch K [d] H H6 := c13.trans ((c4.mono (by simp)).trans (c5.trans (c6.mono (by simp))))
    have D6 := D5.ch c6 (by simp)
    clear c13 c4 c5 c6 e4 D5 D4 D3 D2 c1 c2 c3 e1 e2
    walk_at "g"
    refine ⟨szle (by simp), fun fl H7 nfl efl c7 => ?_⟩
    have fld : fl ∉ [d] := by simpa using D6.ne nfl
    have plfl : pl ≠ fl := ne_of_none epl' nfl
    have fl0 : H fl = none := c16.free nfl fld
    walk_at "g"
    refine ⟨by omega, by omega, ?_⟩
    refine for_rng (fun i σ H' => ∃ x2 x5 x6 x7, σ = [some (.ref d), some (.int (1 + n)), x2, some (.ref pl), some (.ref fl), x5, x6, x7] ∧ Ch K [d] H H' ∧ Dice K H' d ∧
        H' pl = some (.lst (pps.map fun n => V.int (n : Nat))) ∧ ∃ vs fs, H' fl = some (.lst vs) ∧ vs.length = i ∧ Reps K H' vs (fs.map encF) ∧ fs.map Fu.ps = pps.take i ∧ ∀ f ∈ fs, WfFu pps f)
      ⟨none, none, none, none, rfl, c16.trans (c7.mono (by simp)), D6.ch c7 (by simp), c7.up _ _ epl' (by simp), [], [], efl, rfl, .nil, by simp, by simp⟩ ?_ ?_
    · clear hu efl c7 D6 epl' nfl
      rintro i σ H8 hi ⟨x2, x5, x6, x7, rfl, c8, D8, epl8, vs, fs, efl8, lvs, rvs, hfs, wfs⟩
      have hi' : i < pps.length := by omega
      have hget : pps[i]? = some pps[i] := List.getElem?_eq_getElem hi'
      have hp4 : pps[i] ≤ 4 := p40 _ (List.getElem_mem hi')
      have hat : atI (pps.map fun n => V.int (n : Nat)) ((i : Nat) : Int) = some (V.int (pps[i] : Nat)) := atI_nat (by rw [List.getElem?_map, hget]; rfl)
      walk_at "g"
      refine next_use D8 (by decide) (by decide) fun H9 j9 c9 D9 j90 j91 => ?_
      walk_at "g"
      refine ⟨8, _, rfl, ?_⟩
      walk_at "g"
      obtain ⟨nm, hnm, hnp, hn8⟩ : ∃ nm : Nat, (if (pps[i] : Int) + j9 < 8 then (pps[i] : Int) + j9 else 8) = (nm : Nat) ∧ pps[i] ≤ nm ∧ nm ≤ 8 := by
        refine ⟨min 8 (pps[i] + j9.toNat), ?_, by omega, by omega⟩
        split <;> omega
      rw [hnm]
      refine fun wa nwa => ?_
      have wad : wa ∉ [d] := by simpa using D9.ne nwa
      have kwa : Ch K [] H9 (upd H9 wa (.dK [])) := Ch.new nwa
      have Dwa := D9.ch kwa (by simp)
      have epl9 := c9.up _ _ epl8 pld
      have efl9 := c9.up _ _ efl8 fld
      have eplw := kwa.up _ _ epl9 (by simp)
      have nwl : pl ≠ wa := ne_of_none epl9 nwa
      walk_at "g"
      refine g_midE (fun v' H' => ∃ pa ps', Ch K [d] (upd H9 wa (.dK [])) H' ∧ v' = .ref pa ∧ Dice K H' d ∧ pa ≠ d ∧ pa ≠ wa ∧ H' pa = some (.lst (ps'.map fun n => V.int (n : Nat))) ∧ (ps' = [] ∨ ps' = pps)) ?_ ?_
      · walk_at "g"
        refine next_use Dwa (by decide) (by decide) fun H10 j10 c10 D10 _ _ => ?_
        walk_at "g"
        refine iteB (fun h => ?_) (fun h => ?_)
        · walk_at "g"
          refine ⟨szle (by simp), fun pa H11 npa epa c11 => ?_⟩
          exact ⟨pa, [], c10.trans (c11.mono (by simp)), rfl, D10.ch c11 (by simp), D10.ne npa, ne_of_none (c10.up _ _ upd_same wad) npa |>.symm, epa, .inl rfl⟩
        · walk_at "g"
          exact ⟨pl, pps, c10, rfl, D10, by simpa using pld, nwl, c10.up _ _ eplw pld, .inr rfl⟩
      · rintro v' H10 ⟨pa, ps', c10, rfl, D10, pad, paw, epa, hps⟩
        walk_at "g"
        have ewa := c10.up _ _ upd_same wad
        refine ⟨ewa, [(Sum.inr "names", .int nm), (Sum.inr "params", .ref pa)], rfl, by simp, ?_⟩
        have c11 : Ch K [d] H9 (upd H10 wa (.dK (mergeK [] [(Sum.inr "names", .int nm), (Sum.inr "params", .ref pa)]))) := Ch.wrN ((kwa.mono (by simp)).trans c10) nwa ewa rfl
        have c11' : Ch K [wa] H10 (upd H10 wa (.dK (mergeK [] [(Sum.inr "names", .int nm), (Sum.inr "params", .ref pa)]))) := Ch.wr ewa rfl (by simp)
        have hps4 : ∀ n ∈ ps', n ≤ 4 := by rcases hps with rfl | rfl <;> simp_all
        have hps8 : ps'.length ≤ 8 := by rcases hps with rfl | rfl <;> simp_all <;> omega
        have g : GW K (upd H10 wa (.dK (mergeK [] [(Sum.inr "names", .int nm), (Sum.inr "params", .ref pa)]))) d wa nm pa ps' :=
          ⟨D10.ch c11' (by simpa using (D9.ne nwa).symm), upd_same, c11'.up _ _ epa (by simpa using paw), pad, by omega, by omega, hps8, hps4⟩
        generalize upd H10 wa (.dK (mergeK [] [(Sum.inr "names", .int nm), (Sum.inr "params", .ref pa)])) = H11 at c11 c11' g ⊢
        clear epa ewa c10 c11' D10 Dwa kwa eplw
        walk_at "g"
        refine ⟨d, wa, nm, pa, ps', rfl, g, fun H12 v12 b12 c12 D12 r12 w12 l12 => ?_⟩
        have w12' : wfBs nm pps 3 b12 := by
          rcases hps with rfl | rfl
          · exact wfBs_ps w12
          · exact w12
        clear w12
        have epl12 := (c11.trans c12).up _ _ epl9 pld
        have efl12 := (c11.trans c12).up _ _ efl9 fld
        have k812 : Ch K [d] H8 H12 := c9.trans (c11.trans c12)
        have rvs12 := rvs.kt k812.kt
        clear epl9 efl9 rvs epl8 efl8 g
        walk_at "g"
        refine ⟨by omega, by omega, fun Dc nD => ?_⟩
        have Dn : Dc ∉ [d] := by simpa using D12.ne nD
        refine lcR1 (fun i H' => Ch K [] H12 H' ∧ ∃ vs b, H' Dc = some (.lst vs) ∧ vs.length = i ∧ b.length = i ∧ Reps K H' vs (encB b) ∧ wfBs nm pps 1 b)
          ⟨Ch.new nD, [], [], upd_same, rfl, rfl, .nil, by unfold wfBs; trivial⟩ ?_ ?_
        · rintro j H13 hj ⟨c13, us, b, eD, lu, lb, ru, wb⟩
          walk_at "g"
          refine ⟨szle (by simp), fun t1 H14 _ e14 k14 => ?_⟩
          have r1 : Rep K H14 (.ref t1) (encP (.name j)) := .tup (SqT.of e14) (.cons (.str _) (.cons (.int _) .nil))
          walk_at "g"
          refine ⟨szle (by simp), fun t2 H15 _ e15 k15 => ?_⟩
          have r2 : Rep K H15 (.ref t2) (encDd (.say (.name j))) := .tup (SqT.of e15) (.cons (.str _) (.cons (r1.kt k15.kt) .nil))
          have eD15 := (k14.trans k15).up _ _ eD (by simp)
          have c16 : Ch K [Dc] H15 (upd H15 Dc (.lst (us ++ [V.ref t2]))) := Ch.wrL eD15 (by simp)
          refine ⟨us, eD15, Nat.lt_of_le_of_lt (show us.length ≤ 10 by omega) (by decide), Ch.wrN (c13.trans (k14.trans k15)) nD eD15 rfl, us ++ [V.ref t2], b ++ [.say (.name j)], upd_same, by simp [lu], by simp [lb], ?_, wfBs_app wb (show wfBs nm pps 1 [.say (.name j)] from ⟨⟨show j < nm by omega, by simp [szP]⟩, by unfold wfBs; trivial⟩)⟩
          rw [encB_app]
          exact ((ru.kt (k14.trans k15).kt).kt c16.kt).append (.cons (r2.kt c16.kt) .nil)
        · rintro H13 ⟨c13, us, b13, eD, lu, lb, ru, wb⟩
          walk_at "g"
          refine ⟨Dc, us, rfl, .inl ⟨SqL.of eD, fun l14 n14 => ?_⟩⟩
          have c14 : Ch K [] H13 (upd H13 l14 (.tup us)) := Ch.new n14
          have r14 : Rep K (upd H13 l14 (.tup us)) (.ref l14) (.tup (encB b13)) := .tup (SqT.of upd_same) (ru.kt c14.kt)
          have k1214 := c13.trans c14
          generalize upd H13 l14 (.tup us) = H14 at c14 r14 k1214 ⊢
          walk_at "g"
          refine next_use (D12.ch k1214 (by simp)) (by decide) (by decide) fun H15 j15 c15 D15 j150 j151 => ?_
          walk_at "g"
          refine ⟨_, r14.kt c15.kt, fun v16 H16 k16 r16 => ?_⟩
          rw [cutT_to _ _ j150, encB_take] at r16
          walk_at "g"
          have c1216 : Ch K [d] H12 H16 := (k1214.mono (by simp)).trans (c15.trans (k16.mono (by simp)))
          have lt : (b13.take j15.toNat).length ≤ 2 := by rw [List.length_take]; omega
          refine ⟨_, _, r12.kt c1216.kt, r16, by rw [encB_len, encB_len]; omega, fun v17 H17 k17 r17 => ?_⟩
          rw [← encB_app] at r17
          have D17 := D15.ch (k16.trans k17) (by simp)
          have k817 : Ch K [d] H8 H17 := k812.trans (c1216.trans (k17.mono (by simp)))
          have wf17 : wfBs nm pps 3 (b12 ++ b13.take j15.toNat) := wfBs_app w12' (wfBs_mono (by decide) (wfBs_take _ wb))
          have l17 : (b12 ++ b13.take j15.toNat).length ≤ 20 := by rw [List.length_append]; omega
          have efl17 := (c1216.trans (k17.mono (by simp))).up _ _ efl12 fld
          have epl17 := (c1216.trans (k17.mono (by simp))).up _ _ epl12 pld
          have rvs17 := rvs12.kt (c1216.trans (k17.mono (S' := [d]) (by simp))).kt
          generalize b12 ++ b13.take j15.toNat = b17 at r17 wf17 l17
          clear r16 r14 r12 c13 c14 k1214 c15 k16 k17 c1216 eD ru wb epl12 efl12 rvs12 D15 D12 w12' c12
          walk_at "g"
          refine g_cut (Mid := fun σ' H' => ∃ v b, Ch K [d] H17 H' ∧ σ' = [some (.ref d), some (.int (1 + n)), some (.int (i : Nat)), some (.ref pl), some (.ref fl), some (.int nm), some (.ref wa), some v] ∧ Dice K H' d ∧ Rep K H' v (.tup (encB b)) ∧ wfBs nm pps 8 b ∧ b.length ≤ 20) ?_ ?_
          · walk_at "g"
            refine g_mid (fun _ H' => Ch K [d] H17 H' ∧ Dice K H' d) ?_ ?_
            · walk_at "g"
              refine next_use D17 (by decide) (by decide) fun H18 j18 c18 D18 _ _ => ?_
              walk_at "g"
              refine iteB (fun h => ?_) (fun h => ?_)
              · walk_at "g"
                have dd := dpT_B wf17
                refine ⟨v17, .tup (encB b17), rfl, r17.kt c18.kt, by simp only [dpT]; omega, fun H19 c19 => ?_⟩
                walk_at "g"
                exact ⟨c18.trans (c19.mono (by simp)), D18.ch c19 (by simp)⟩
              · exact ⟨c18, D18⟩
            · rintro tst H18 ⟨c18, D18⟩
              refine iteB (fun h => ?_) (fun h => ?_)
              · walk_at "g"
                refine ⟨d, v17, b17, nm, pps, rfl, D18, r17.kt c18.kt, wf17, l17, fun H19 v19 b19 c19 D19 r19 w19 l19 => ?_⟩
                walk_at "g"
                exact ⟨v19, b19, c18.trans c19, rfl, D19, r19, w19, l19⟩
              · walk_at "g"
                exact ⟨v17, b17, c18, rfl, D18, r17.kt c18.kt, wfBs_mono (by decide) wf17, l17⟩
          · rintro σ' H18 ⟨v18, b18, c18, rfl, D18, r18, w18, l18⟩
            walk_at "g"
            refine g_while ⟨fun m σ' H' => ∃ v b, m = b.length ∧ σ' = [some (.ref d), some (.int (1 + n)), some (.int (i : Nat)), some (.ref pl), some (.ref fl), some (.int nm), some (.ref wa), some v] ∧ Ch K [d] H17 H' ∧ Dice K H' d ∧ Rep K H' v (.tup (encB b)) ∧ wfBs nm pps 8 b ∧ b.length ≤ 20,
              ⟨_, v18, b18, rfl, rfl, c18, D18, r18, w18, l18⟩, ?_⟩
            clear w18 r18 l18 D18 c18
            rintro m σ' H18 ⟨v18, b18, rfl, rfl, c18, D18, r18, w18, l18⟩
            walk_at "g"
            have dd := dpT_B w18
            refine ⟨v18, .tup (encB b18), rfl, r18, by simp only [dpT]; omega, fun H19 c19 => ?_⟩
            rw [thT_tB]
            walk_at "g"
            refine iteB (fun h => ?_) (fun h => ?_)
            · have h1 := of_decide_eq_true h
              refine ⟨fun σ' H' => ∃ v b, b.length < b18.length ∧ σ' = [some (.ref d), some (.int (1 + n)), some (.int (i : Nat)), some (.ref pl), some (.ref fl), some (.int nm), some (.ref wa), some v] ∧ Ch K [d] H17 H' ∧ Dice K H' d ∧ Rep K H' v (.tup (encB b)) ∧ wfBs nm pps 8 b ∧ b.length ≤ 20,
                fun σ' H' ⟨v, b, lb, es, x⟩ => ⟨_, lb, v, b, rfl, es, x⟩, ?_⟩
              walk_at "g"
              refine ⟨_, r18.kt c19.kt, fun v20 H20 c20 r20 => ?_⟩
              rw [show (some (1 : Int)) = some ((1 : Nat) : Int) from rfl, cutT_from] at r20
              walk_at "g"
              cases b18 with
              | nil => simp [szB] at h1
              | cons d0 r0 => exact ⟨v20, r0, Nat.lt_succ_self _, rfl, c18.trans ((c19.trans c20).mono (by simp)), D18.ch (c19.trans c20) (by simp), r20, w18.2, by simp at l18; omega⟩
            · have h1 := of_decide_eq_false h
              have c819 := c18.trans (c19.mono (S' := [d]) (by simp))
              have efl19 := c819.up _ _ efl17 fld
              have epl19 := c819.up _ _ epl17 pld
              walk_at "g"
              refine ⟨szle (by simp), fun t20 H20 _ e20 c20 => ?_⟩
              have efl20 := c20.up _ _ efl19 (by simp)
              have hvs : vs.length < sizeLine := szlt (by omega)
              have dfl : d ∉ [fl] := by simp at fld ⊢; exact fun h => fld h.symm
              have r20 : Rep K H20 (.ref t20) (encF ⟨pps[i], nm, b18⟩) := .tup (SqT.of e20) (.cons (.int _) (.cons (.int _) (.cons (r18.kt (c19.trans c20).kt) .nil)))
              walk_at "g"
              have cU : Ch K [fl] H20 (upd H20 fl (.lst (vs ++ [V.ref t20]))) := Ch.wrL efl20 (by simp)
              have c17U : Ch K [d] H (upd H20 fl (.lst (vs ++ [V.ref t20]))) := Ch.wrN (c8.trans (k817.trans (c819.trans (c20.mono (by simp))))) fl0 efl20 rfl
              refine ⟨_, _, _, _, rfl, c17U, (D18.ch (c19.trans c20) (by simp)).ch cU dfl, cU.up _ _ (c20.up _ _ epl19 (by simp)) (by simpa using plfl), vs ++ [V.ref t20], fs ++ [⟨pps[i], nm, b18⟩], upd_same, by simp [lvs], ?_, ?_, ?_⟩
              · rw [List.map_append]
                exact ((rvs17.kt c819.kt).kt (c20.kt.trans cU.kt)).append (.cons (r20.kt cU.kt) .nil)
              · rw [List.map_append, hfs, List.take_succ, hget]
                rfl
              · intro f hf
                rcases List.mem_append.mp hf with hf | hf
                · exact wfs f hf
                · simp at hf
                  subst hf
                  exact ⟨hp4, hnp, hn8, w18, show szB b18 ≤ 190 by omega⟩
    · rintro σ H8 ⟨x2, x5, x6, x7, rfl, c8, D8, epl8, vs, fs, efl8, lvs, rvs, hfs, wfs⟩
      walk_at "g"
      refine ⟨fl, vs, rfl, .inl ⟨SqL.of efl8, fun l14 n14 => ?_⟩⟩
      have hfs' : fs.map Fu.ps = pps := by rw [hfs, List.take_of_length_le (by omega)]
      have hl : fs.length = pps.length := by rw [← hfs', List.length_map]
      refine q _ _ fs (c8.trans (Ch.new n14)) (D8.nw n14) (.tup (SqT.of upd_same) (rvs.kt (Ch.new (S := []) n14).kt)) ⟨by omega, by omega, fun f hf => ?_, fun f hf => ?_⟩
      · have h1 : (fs.map Fu.ps)[0]? = some f.ps := by rw [List.getElem?_map, hf]; rfl
        rw [hfs', p00] at h1
        exact (Option.some.inj h1).symm
      · rw [hfs']
        exact wfs f hf
end
end K3
end

section
set_option maxRecDepth 100000
set_option maxHeartbeats 1000000
namespace K3
open PySem PySem.Spec PyProof.Rows L2 Bq
/-! ### words and what they stand for -/
abbrev WT := Str × T
def wE : WT := ("end", .str "end")
def wL : WT := ("else", .str "else")
mutual
def xp : Pt → List WT
  | .num n => [(wn n, .tup [.str "num", .int n])]
  | .name i => [("n" ++ wn i, .tup [.str "name", .int i])]
  | .bin op a b => (op.str, .str op.str) :: (xp a ++ xp b)
  | .nt a => ("not", .str "not") :: xp a
  | .get a => ("get", .str "get") :: xp a
  | .call f ps => ("call", .str "call") :: (wn f, .int f) :: (wn ps.length, .int ps.length) :: xps ps
def xps : List Pt → List WT
  | [] => []
  | p :: r => xp p ++ xps r
end
mutual
def xd : Dd → List WT
  | .set i p => ("set", .str "set") :: (wn i, .int i) :: xp p
  | .put c p => ("put", .str "put") :: (xp c ++ xp p)
  | .say p => ("say", .str "say") :: xp p
  | .ite p a b => ("if", .str "if") :: (xp p ++ (xb a ++ (wL :: (xb b ++ [wE]))))
  | .whl p b => ("while", .str "while") :: (xp p ++ (xb b ++ [wE]))
  | .ret p => ("return", .str "return") :: xp p
  | .dop p => ("do", .str "do") :: xp p
def xb : List Dd → List WT
  | [] => []
  | d :: r => xd d ++ xb r
end
def xf (f : Fu) : List WT := ("fun", .str "fun") :: (wn f.ps, .int f.ps) :: (wn f.nm, .int f.nm) :: (xb f.body ++ [wE])
def xfs : List Fu → List WT
  | [] => []
  | f :: r => xf f ++ xfs r
def ww (x : List WT) : List Str := x.map Prod.fst
def wt (x : List WT) : List T := x.map Prod.snd
/-! ### what is asked of them -/
mutual
def txP : Pt → Prop
  | .num n => -1000000 ≤ n ∧ n ≤ 1000000
  | .name i => i < 8
  | .bin _ a b => txP a ∧ txP b
  | .nt a => txP a
  | .get a => txP a
  | .call f ps => f < 8 ∧ ps.length ≤ 4 ∧ txPs ps
def txPs : List Pt → Prop
  | [] => True
  | p :: r => txP p ∧ txPs r
end
mutual
def txD : Dd → Prop
  | .set i p => i < 8 ∧ txP p
  | .put c p => txP c ∧ txP p
  | .say p => txP p
  | .ite p a b => txP p ∧ txB a ∧ txB b
  | .whl p b => txP p ∧ txB b
  | .ret p => txP p
  | .dop p => txP p
def txB : List Dd → Prop
  | [] => True
  | d :: r => txD d ∧ txB r
end
mutual
theorem txP_of {nm : Nat} {ps : List Nat} (h1 : nm ≤ 8) (h2 : ps.length ≤ 8) (h3 : ∀ n ∈ ps, n ≤ 4) : ∀ {p : Pt}, wfP nm ps p → txP p
  | .num _, h => h
  | .name i, h => Nat.lt_of_lt_of_le (show i < nm from h) h1
  | .bin _ a b, h => ⟨txP_of h1 h2 h3 h.1, txP_of h1 h2 h3 h.2⟩
  | .nt a, h => txP_of h1 h2 h3 (p := a) h
  | .get a, h => txP_of h1 h2 h3 (p := a) h
  | .call f qs, h => by
    have h4 := (List.getElem?_eq_some_iff.mp h.1).1
    exact ⟨by omega, h3 _ (List.mem_of_getElem? h.1), txPs_of h1 h2 h3 h.2⟩
theorem txPs_of {nm : Nat} {ps : List Nat} (h1 : nm ≤ 8) (h2 : ps.length ≤ 8) (h3 : ∀ n ∈ ps, n ≤ 4) : ∀ {qs : List Pt}, wfPs nm ps qs → txPs qs
  | [], _ => trivial
  | p :: r, h => ⟨txP_of h1 h2 h3 h.1, txPs_of h1 h2 h3 h.2⟩
end
mutual
theorem txD_of {nm : Nat} {ps : List Nat} (h1 : nm ≤ 8) (h2 : ps.length ≤ 8) (h3 : ∀ n ∈ ps, n ≤ 4) : ∀ {n : Nat} {d : Dd}, wfD nm ps n d → txD d
  | _, .set i p, h => ⟨Nat.lt_of_lt_of_le h.1 h1, txP_of h1 h2 h3 h.2.1⟩
  | _, .put c p, h => ⟨txP_of h1 h2 h3 h.1, txP_of h1 h2 h3 h.2.1⟩
  | _, .say p, h => txP_of h1 h2 h3 h.1
  | _, .ite p a b, h => ⟨txP_of h1 h2 h3 h.1, txB_of h1 h2 h3 h.2.2.1, txB_of h1 h2 h3 h.2.2.2⟩
  | _, .whl p b, h => ⟨txP_of h1 h2 h3 h.1, txB_of h1 h2 h3 h.2.2⟩
  | _, .ret p, h => txP_of h1 h2 h3 h.1
  | _, .dop p, h => txP_of h1 h2 h3 h.1
theorem txB_of {nm : Nat} {ps : List Nat} (h1 : nm ≤ 8) (h2 : ps.length ≤ 8) (h3 : ∀ n ∈ ps, n ≤ 4) : ∀ {n : Nat} {b : List Dd}, wfBs nm ps n b → txB b
  | _, [], _ => trivial
  | 0, _ :: _, h => h.elim
  | n + 1, d :: r, h => ⟨txD_of h1 h2 h3 h.1, txB_of h1 h2 h3 h.2⟩
end
/-! ### lengths -/
mutual
theorem xp_len : ∀ p : Pt, (xp p).length ≤ 3 * szP p
  | .num _ => by simp [xp, szP]
  | .name _ => by simp [xp, szP]
  | .bin _ a b => by have := xp_len a; have := xp_len b; simp only [xp, szP, List.length_cons, List.length_append]; omega
  | .nt a => by have := xp_len a; simp only [xp, szP, List.length_cons]; omega
  | .get a => by have := xp_len a; simp only [xp, szP, List.length_cons]; omega
  | .call _ ps => by have := xps_len ps; simp only [xp, szP, List.length_cons]; omega
theorem xps_len : ∀ ps : List Pt, (xps ps).length ≤ 3 * szPs ps
  | [] => Nat.le_refl 0
  | p :: r => by have := xp_len p; have := xps_len r; simp only [xps, szPs, List.length_append]; omega
end
mutual
theorem xd_len : ∀ d : Dd, (xd d).length ≤ 3 * szD d
  | .set _ p => by have := xp_len p; simp only [xd, szD, List.length_cons]; omega
  | .put c p => by have := xp_len c; have := xp_len p; simp only [xd, szD, List.length_cons, List.length_append]; omega
  | .say p => by have := xp_len p; simp only [xd, szD, List.length_cons]; omega
  | .ite p a b => by have := xp_len p; have := xb_len a; have := xb_len b; simp only [xd, szD, List.length_cons, List.length_append, List.length_nil]; omega
  | .whl p b => by have := xp_len p; have := xb_len b; simp only [xd, szD, List.length_cons, List.length_append, List.length_nil]; omega
  | .ret p => by have := xp_len p; simp only [xd, szD, List.length_cons]; omega
  | .dop p => by have := xp_len p; simp only [xd, szD, List.length_cons]; omega
theorem xb_len : ∀ b : List Dd, (xb b).length ≤ 3 * szB b
  | [] => Nat.le_refl 0
  | d :: r => by have := xd_len d; have := xb_len r; simp only [xb, szB, List.length_append]; omega
end
theorem xf_len (f : Fu) : (xf f).length ≤ 3 * szB f.body + 4 := by
  have := xb_len f.body
  simp only [xf, List.length_cons, List.length_append, List.length_nil]
  omega
theorem xp_ne (p : Pt) : xp p ≠ [] := by cases p <;> simp [xp]
theorem ww_ne {x : List WT} (h : x ≠ []) : ww x ≠ [] := by
  cases x with
  | nil => exact (h rfl).elim
  | cons a r => exact List.cons_ne_nil _ _
theorem ww_app (x y : List WT) : ww (x ++ y) = ww x ++ ww y := List.map_append ..
theorem ww_len (x : List WT) : (ww x).length = x.length := List.length_map ..
/-! ### each word is short, holds no blank -/
def okS (w : Str) : Prop := w.length ≤ 8 ∧ ¬ 32 ∈ TL.tl w
theorem okS_num {i : Int} (h1 : -1000000 ≤ i) (h2 : i ≤ 1000000) : okS (wn i) := by
  cases i with
  | ofNat n =>
    have e := tl_pos n
    have h3 : n ≤ 1000000 := by have : ((n : Nat) : Int) ≤ 1000000 := h2; omega
    refine ⟨?_, ?_⟩
    · rw [len_tl, show TL.tl (wn (Int.ofNat n)) = TL.numL n from e]
      have := TL.numL_len (n := n) (k := 7) (by decide) (by omega)
      omega
    · rw [show TL.tl (wn (Int.ofNat n)) = TL.numL n from e]
      exact TL.numL_free (by decide)
  | negSucc n =>
    have e := tl_neg n
    have h3 : n + 1 ≤ 1000000 := by omega
    refine ⟨?_, ?_⟩
    · rw [len_tl, e]
      have := TL.numL_len (n := n + 1) (k := 7) (by decide) (by omega)
      simp only [List.length_cons]
      omega
    · rw [e]
      intro h
      rcases List.mem_cons.mp h with h | h
      · cases h
      · exact TL.numL_free (by decide) h
theorem okS_nat {n : Nat} (h : n ≤ 9) : okS (wn (n : Int)) := okS_num (by omega) (by omega)
theorem okS_c {w : Str} (h : (decide (w.length ≤ 8) && decide (¬ 32 ∈ TL.tl w)) = true) : okS w := by
  rw [Bool.and_eq_true] at h
  exact ⟨of_decide_eq_true h.1, of_decide_eq_true h.2⟩
theorem tl_n : TL.tl ("n" : Str) = [110] := by decide +kernel
theorem tl_nm (i : Nat) : TL.tl ("n" ++ wn (i : Int)) = 110 :: TL.numL i := by
  rw [tl_app, tl_n, tl_pos]
  rfl
theorem okS_nm {i : Nat} (h : i < 8) : okS ("n" ++ wn (i : Int)) := by
  refine ⟨?_, ?_⟩
  · rw [len_tl, tl_nm]
    have := TL.numL_len (n := i) (k := 1) (by decide) (by omega)
    simp only [List.length_cons]
    omega
  · rw [tl_nm]
    intro h
    rcases List.mem_cons.mp h with h | h
    · cases h
    · exact TL.numL_free (by decide) h
def okW (x : List WT) : Prop := ∀ q ∈ x, okS q.1
theorem okW_nil : okW [] := by simp [okW]
theorem okW_cons {q : WT} {x : List WT} (h : okS q.1) (k : okW x) : okW (q :: x) := by
  intro y hy
  rcases List.mem_cons.mp hy with rfl | hy
  · exact h
  · exact k y hy
theorem okW_app {x y : List WT} (h : okW x) (k : okW y) : okW (x ++ y) := by
  intro q hq
  rcases List.mem_append.mp hq with hq | hq
  · exact h q hq
  · exact k q hq
theorem okW_len {x : List WT} (h : okW x) : ∀ w ∈ ww x, w.length ≤ 8 := by
  intro w hw
  obtain ⟨q, hq, rfl⟩ := List.mem_map.mp hw
  exact (h q hq).1
mutual
theorem okW_p : ∀ {p : Pt}, txP p → okW (xp p)
  | .num n, h => okW_cons (okS_num h.1 h.2) okW_nil
  | .name i, h => okW_cons (okS_nm h) okW_nil
  | .bin op a b, h => okW_cons (okS_c (by cases op <;> decide +kernel)) (okW_app (okW_p h.1) (okW_p h.2))
  | .nt a, h => okW_cons (okS_c (by decide +kernel)) (okW_p (p := a) h)
  | .get a, h => okW_cons (okS_c (by decide +kernel)) (okW_p (p := a) h)
  | .call f ps, h => okW_cons (okS_c (by decide +kernel)) (okW_cons (okS_nat (by have := h.1; omega)) (okW_cons (okS_nat (by have := h.2.1; omega)) (okW_ps h.2.2)))
theorem okW_ps : ∀ {ps : List Pt}, txPs ps → okW (xps ps)
  | [], _ => okW_nil
  | p :: r, h => okW_app (okW_p h.1) (okW_ps h.2)
end
theorem okW_E : okW [wE] := okW_cons (okS_c (by decide +kernel)) okW_nil
mutual
theorem okW_d : ∀ {d : Dd}, txD d → okW (xd d)
  | .set i p, h => okW_cons (okS_c (by decide +kernel)) (okW_cons (okS_nat (by have := h.1; omega)) (okW_p h.2))
  | .put c p, h => okW_cons (okS_c (by decide +kernel)) (okW_app (okW_p h.1) (okW_p h.2))
  | .say p, h => okW_cons (okS_c (by decide +kernel)) (okW_p (p := p) h)
  | .ite p a b, h => okW_cons (okS_c (by decide +kernel)) (okW_app (okW_p h.1) (okW_app (okW_b h.2.1) (okW_cons (okS_c (by decide +kernel)) (okW_app (okW_b h.2.2) okW_E))))
  | .whl p b, h => okW_cons (okS_c (by decide +kernel)) (okW_app (okW_p h.1) (okW_app (okW_b h.2) okW_E))
  | .ret p, h => okW_cons (okS_c (by decide +kernel)) (okW_p (p := p) h)
  | .dop p, h => okW_cons (okS_c (by decide +kernel)) (okW_p (p := p) h)
theorem okW_b : ∀ {b : List Dd}, txB b → okW (xb b)
  | [], _ => okW_nil
  | d :: r, h => okW_app (okW_d h.1) (okW_b h.2)
end
theorem jn_len {x : List WT} (h : okW x) : (jn (ww x)).length ≤ 9 * x.length := by
  have h1 := bl_len (xs := ww x) (k := 8) (okW_len h)
  rw [ww_len] at h1
  cases x with
  | nil => decide +kernel
  | cons a r =>
    rw [bl_jn (ww_ne (List.cons_ne_nil a r)), S_len, sp_len] at h1
    omega
theorem blw_len {x : List WT} (h : okW x) : (bl (ww x)).length ≤ 9 * x.length := by
  have h1 := bl_len (xs := ww x) (k := 8) (okW_len h)
  rwa [ww_len] at h1
end K3
end

section
set_option maxRecDepth 100000
set_option maxHeartbeats 1000000
namespace Bq
open PySem
/-! ### what a program does, step by step -/
def innerP : Pt → List Pt
  | .num _ => []
  | .name _ => []
  | .bin _ a b => [a, b]
  | .nt a => [a]
  | .get a => [a]
  | .call _ ps => ps
def innerD : Dd → List Pt
  | .set _ p => [p]
  | .put c p => [c, p]
  | .say p => [p]
  | .ite p _ _ => [p]
  | .whl p _ => [p]
  | .ret p => [p]
  | .dop p => [p]
mutual
inductive DS where
  | nil
  | back (ns : List Int) (r : VS)
  | body (b : List Dd) (i : Nat) (r : DS)
  | again (p : Pt) (b : List Dd) (r : DS)
inductive VS where
  | part (t : Pt) (ws : List Int) (r : VS)
  | deed (d : Dd) (ws : List Int) (r : DS)
end
inductive Ctl where
  | look (p : Pt) (s : VS)
  | give (v : Int) (s : VS)
  | go (s : DS)
  | ret (v : Int) (s : DS)
inductive En where
  | worth (v : Int)
  | fault (w : Str)
  | long
structure St where
  said : List Int
  cells : List Int
  fuel : Nat
  calls : Nat
  names : List Int
  c : Ctl
structure Fi where
  said : List Int
  cells : List Int
  en : En
def ringI (n : Int) : Int := (n + 1000000000) % 2000000000 - 1000000000
/-- a pair's worth; none: the fault over -/
def pairI : Op → Int → Int → Option Int
  | .add, a, b => some (ringI (a + b))
  | .take, a, b => some (ringI (a - b))
  | .times, a, b => some (ringI (a * b))
  | .over, a, b => if b = 0 then none else some (ringI (Int.fdiv a b))
  | .rest, a, b => if b = 0 then none else some (Int.fmod a b)
  | .less, a, b => some (if a < b then 1 else 0)
  | .same, a, b => some (if a = b then 1 else 0)
def popB : DS → DS
  | .nil => .nil
  | .back ns r => .back ns r
  | .body _ _ r => popB r
  | .again _ _ r => popB r
/-- what a fun that is called begins with -/
def handed (fn : Fu) (ws : List Int) : List Int := ws ++ List.replicate (fn.nm - fn.ps) 0
inductive Step (fs : List Fu) : St → St → Prop where
  | num {sd ce fu ca nm n s} : Step fs ⟨sd, ce, fu, ca, nm, .look (.num n) s⟩ ⟨sd, ce, fu, ca, nm, .give n s⟩
  | name {sd ce fu ca nm i v s} (h : nm[i]? = some v) : Step fs ⟨sd, ce, fu, ca, nm, .look (.name i) s⟩ ⟨sd, ce, fu, ca, nm, .give v s⟩
  | first {sd ce fu ca nm p q s} (h : (innerP p)[0]? = some q) : Step fs ⟨sd, ce, fu, ca, nm, .look p s⟩ ⟨sd, ce, fu, ca, nm, .look q (.part p [] s)⟩
  | next {sd ce fu ca nm v p ws q s} (h : (innerP p)[ws.length + 1]? = some q) : Step fs ⟨sd, ce, fu, ca, nm, .give v (.part p ws s)⟩ ⟨sd, ce, fu, ca, nm, .look q (.part p (ws ++ [v]) s)⟩
  | nextD {sd ce fu ca nm v d ws q s} (h : (innerD d)[ws.length + 1]? = some q) : Step fs ⟨sd, ce, fu, ca, nm, .give v (.deed d ws s)⟩ ⟨sd, ce, fu, ca, nm, .look q (.deed d (ws ++ [v]) s)⟩
  | bin {sd ce fu ca nm a b op x y v s} (h : pairI op a b = some v) : Step fs ⟨sd, ce, fu, ca, nm, .give b (.part (.bin op x y) [a] s)⟩ ⟨sd, ce, fu, ca, nm, .give v s⟩
  | nt {sd ce fu ca nm a x s} : Step fs ⟨sd, ce, fu, ca, nm, .give a (.part (.nt x) [] s)⟩ ⟨sd, ce, fu, ca, nm, .give (if a = 0 then 1 else 0) s⟩
  | get {sd ce fu ca nm a x v s} (h0 : 0 ≤ a) (h : ce[a.toNat]? = some v) : Step fs ⟨sd, ce, fu, ca, nm, .give a (.part (.get x) [] s)⟩ ⟨sd, ce, fu, ca, nm, .give v s⟩
  | call0 {sd ce fu ca nm f fn s} (hf : fs[f]? = some fn) (hc : ca < 60) : Step fs ⟨sd, ce, fu + 1, ca, nm, .look (.call f []) s⟩ ⟨sd, ce, fu, ca + 1, handed fn [], .go (.body fn.body 0 (.back nm s))⟩
  | call {sd ce fu ca nm f ps fn v ws s} (hf : fs[f]? = some fn) (hc : ca < 60) (hl : ws.length + 1 = ps.length) :
      Step fs ⟨sd, ce, fu + 1, ca, nm, .give v (.part (.call f ps) ws s)⟩ ⟨sd, ce, fu, ca + 1, handed fn (ws ++ [v]), .go (.body fn.body 0 (.back nm s))⟩
  | set {sd ce fu ca nm i x v s} : Step fs ⟨sd, ce, fu, ca, nm, .give v (.deed (.set i x) [] s)⟩ ⟨sd, ce, fu, ca, nm.set i v, .go s⟩
  | put {sd ce fu ca nm x y a v s} (h0 : 0 ≤ a) (h : a < 64) : Step fs ⟨sd, ce, fu, ca, nm, .give v (.deed (.put x y) [a] s)⟩ ⟨sd, ce.set a.toNat v, fu, ca, nm, .go s⟩
  | say {sd ce fu ca nm x v s} : Step fs ⟨sd, ce, fu, ca, nm, .give v (.deed (.say x) [] s)⟩ ⟨sd ++ [v], ce, fu, ca, nm, .go s⟩
  | ite {sd ce fu ca nm x a b v s} : Step fs ⟨sd, ce, fu, ca, nm, .give v (.deed (.ite x a b) [] s)⟩ ⟨sd, ce, fu, ca, nm, .go (.body (if v = 0 then b else a) 0 s)⟩
  | whl0 {sd ce fu ca nm x b s} : Step fs ⟨sd, ce, fu, ca, nm, .give 0 (.deed (.whl x b) [] s)⟩ ⟨sd, ce, fu, ca, nm, .go s⟩
  | whl {sd ce fu ca nm x b v s} (h : v ≠ 0) : Step fs ⟨sd, ce, fu + 1, ca, nm, .give v (.deed (.whl x b) [] s)⟩ ⟨sd, ce, fu, ca, nm, .go (.body b 0 (.again x b s))⟩
  | ret {sd ce fu ca nm x v s} : Step fs ⟨sd, ce, fu, ca, nm, .give v (.deed (.ret x) [] s)⟩ ⟨sd, ce, fu, ca, nm, .ret v (popB s)⟩
  | dop {sd ce fu ca nm x v s} : Step fs ⟨sd, ce, fu, ca, nm, .give v (.deed (.dop x) [] s)⟩ ⟨sd, ce, fu, ca, nm, .go s⟩
  | goBack {sd ce fu ca nm ns s} : Step fs ⟨sd, ce, fu, ca + 1, nm, .go (.back ns s)⟩ ⟨sd, ce, fu, ca, ns, .give 0 s⟩
  | retBack {sd ce fu ca nm ns v s} : Step fs ⟨sd, ce, fu, ca + 1, nm, .ret v (.back ns s)⟩ ⟨sd, ce, fu, ca, ns, .give v s⟩
  | deed {sd ce fu ca nm b i d q s} (h : b[i]? = some d) (hq : (innerD d)[0]? = some q) : Step fs ⟨sd, ce, fu, ca, nm, .go (.body b i s)⟩ ⟨sd, ce, fu, ca, nm, .look q (.deed d [] (.body b (i + 1) s))⟩
  | over {sd ce fu ca nm b i s} (h : b.length ≤ i) : Step fs ⟨sd, ce, fu, ca, nm, .go (.body b i s)⟩ ⟨sd, ce, fu, ca, nm, .go s⟩
  | again {sd ce fu ca nm p b s} : Step fs ⟨sd, ce, fu, ca, nm, .go (.again p b s)⟩ ⟨sd, ce, fu, ca, nm, .look p (.deed (.whl p b) [] s)⟩
inductive Ends (fs : List Fu) : St → Fi → Prop where
  | go {sd ce fu nm} : Ends fs ⟨sd, ce, fu, 0, nm, .go .nil⟩ ⟨sd, ce, .worth 0⟩
  | ret {sd ce fu nm v} : Ends fs ⟨sd, ce, fu, 0, nm, .ret v .nil⟩ ⟨sd, ce, .worth v⟩
  | bin {sd ce fu ca nm a b op x y s} (h : pairI op a b = none) : Ends fs ⟨sd, ce, fu, ca, nm, .give b (.part (.bin op x y) [a] s)⟩ ⟨sd, ce, .fault "over"⟩
  | get {sd ce fu ca nm a x s} (h : ¬ (0 ≤ a ∧ a < 64)) : Ends fs ⟨sd, ce, fu, ca, nm, .give a (.part (.get x) [] s)⟩ ⟨sd, ce, .fault "cell"⟩
  | put {sd ce fu ca nm x y a v s} (h : ¬ (0 ≤ a ∧ a < 64)) : Ends fs ⟨sd, ce, fu, ca, nm, .give v (.deed (.put x y) [a] s)⟩ ⟨sd, ce, .fault "cell"⟩
  | deep0 {sd ce fu ca nm f s} (hc : 60 ≤ ca) : Ends fs ⟨sd, ce, fu, ca, nm, .look (.call f []) s⟩ ⟨sd, ce, .fault "deep"⟩
  | deep {sd ce fu ca nm f ps v ws s} (hc : 60 ≤ ca) (hl : ws.length + 1 = ps.length) : Ends fs ⟨sd, ce, fu, ca, nm, .give v (.part (.call f ps) ws s)⟩ ⟨sd, ce, .fault "deep"⟩
  | long0 {sd ce ca nm f s} (hc : ca < 60) : Ends fs ⟨sd, ce, 0, ca, nm, .look (.call f []) s⟩ ⟨sd, ce, .long⟩
  | long {sd ce ca nm f ps v ws s} (hc : ca < 60) (hl : ws.length + 1 = ps.length) : Ends fs ⟨sd, ce, 0, ca, nm, .give v (.part (.call f ps) ws s)⟩ ⟨sd, ce, .long⟩
  | longW {sd ce ca nm x b v s} (h : v ≠ 0) : Ends fs ⟨sd, ce, 0, ca, nm, .give v (.deed (.whl x b) [] s)⟩ ⟨sd, ce, .long⟩
/-! ### what is well made -/
def InR (v : Int) : Prop := -1000000000 ≤ v ∧ v < 1000000000
mutual
def wfVS (ps : List Nat) : Nat → Nat → VS → Prop
  | nm, c, .part t ws r => ws.length < (innerP t).length ∧ wfP nm ps t ∧ (∀ v ∈ ws, InR v) ∧ wfVS ps nm c r
  | nm, c, .deed d ws r => ws.length < (innerD d).length ∧ wfD nm ps 8 d ∧ szD d ≤ 190 ∧ (∀ v ∈ ws, InR v) ∧ wfDS ps nm c r
def wfDS (ps : List Nat) : Nat → Nat → DS → Prop
  | _, c, .nil => c = 0
  | _, c, .back ns r => ∃ c', c = c' + 1 ∧ (∀ v ∈ ns, InR v) ∧ ns.length ≤ 8 ∧ wfVS ps ns.length c' r
  | nm, c, .body b i r => i ≤ b.length ∧ wfBs nm ps 8 b ∧ szB b ≤ 190 ∧ wfDS ps nm c r
  | nm, c, .again p b r => wfD nm ps 8 (.whl p b) ∧ szD (.whl p b) ≤ 190 ∧ wfDS ps nm c r
end
def flat : DS → Prop
  | .nil => True
  | .back _ _ => True
  | _ => False
def wfC (ps : List Nat) (nm c : Nat) : Ctl → Prop
  | .look p s => wfP nm ps p ∧ wfVS ps nm c s
  | .give v s => InR v ∧ wfVS ps nm c s
  | .go s => wfDS ps nm c s
  | .ret v s => InR v ∧ flat s ∧ wfDS ps nm c s
structure WfSt (ps : List Nat) (st : St) : Prop where
  ce : st.cells.length = 64
  ceR : ∀ v ∈ st.cells, InR v
  nmR : ∀ v ∈ st.names, InR v
  n8 : st.names.length ≤ 8
  fu : st.fuel ≤ 3000
  ca : st.calls ≤ 60
  c : wfC ps st.names.length st.calls st.c
/-! ### how much is left -/
def remP (l : List Pt) (n : Nat) : Nat := szPs (l.drop n)
def bodies : Dd → Nat
  | .ite _ a b => szB a + szB b
  | _ => 0
mutual
def cV : VS → Nat
  | .part t ws r => 3 * remP (innerP t) (ws.length + 1) + 1 + ws.length + cV r
  | .deed d ws r => 3 * remP (innerD d) (ws.length + 1) + 3 * bodies d + 1 + ws.length + cD r
def cD : DS → Nat
  | .nil => 0
  | .back _ r => 3 + cV r
  | .body b i r => 3 * szB (b.drop i) + 1 + cD r
  | .again p b r => 3 * szD (.whl p b) + 1 + cD r
end
def cC : Ctl → Nat
  | .look p s => 3 * szP p + cV s
  | .give _ s => 2 + cV s
  | .go s => cD s
  | .ret _ s => cD s
def left (st : St) : Nat := 1200 * st.fuel + cC st.c
theorem szPs_drop : ∀ {l : List Pt} {n : Nat} {q : Pt}, l[n]? = some q → remP l n = szP q + remP l (n + 1)
  | [], n, q, h => by simp at h
  | p :: r, 0, q, h => by
    simp at h
    subst h
    rfl
  | p :: r, n + 1, q, h => by
    have h1 := szPs_drop (l := r) (n := n) (q := q) (by simpa using h)
    exact h1
theorem szB_drop : ∀ {l : List Dd} {n : Nat} {q : Dd}, l[n]? = some q → szB (l.drop n) = szD q + szB (l.drop (n + 1))
  | [], n, q, h => by simp at h
  | p :: r, 0, q, h => by
    simp at h
    subst h
    rfl
  | p :: r, n + 1, q, h => by
    have h1 := szB_drop (l := r) (n := n) (q := q) (by simpa using h)
    exact h1
theorem szB_drop_le : ∀ (l : List Dd) (n : Nat), szB (l.drop n) ≤ szB l
  | [], _ => by simp
  | p :: r, 0 => Nat.le_refl _
  | p :: r, n + 1 => by
    have := szB_drop_le r n
    simp only [List.drop_succ_cons, szB]
    omega
theorem remP_inner (p : Pt) : 1 + remP (innerP p) 0 = szP p := by
  cases p <;> simp [innerP, remP, szP, szPs] <;> omega
theorem remP_innerD (d : Dd) : 1 + remP (innerD d) 0 + bodies d ≤ szD d := by
  cases d <;> simp [innerD, remP, szD, szPs, bodies] <;> omega
theorem cD_popB : ∀ s : DS, cD (popB s) ≤ cD s
  | .nil => Nat.le_refl _
  | .back _ _ => Nat.le_refl _
  | .body _ _ r => by have := cD_popB r; simp only [popB, cD]; omega
  | .again _ _ r => by have := cD_popB r; simp only [popB, cD]; omega
theorem remP_len {l : List Pt} {n : Nat} (h : l.length ≤ n) : remP l n = 0 := by
  unfold remP
  rw [List.drop_eq_nil_of_le h]
  rfl
theorem wfPs_get {nm : Nat} {ps : List Nat} : ∀ {l : List Pt} {n : Nat} {q : Pt}, wfPs nm ps l → l[n]? = some q → wfP nm ps q
  | [], n, q, _, h => by simp at h
  | p :: r, 0, q, w, h => by simp at h; subst h; exact w.1
  | p :: r, n + 1, q, w, h => wfPs_get (l := r) w.2 (by simpa using h)
theorem wfBs_get {nm : Nat} {ps : List Nat} {m : Nat} : ∀ {l : List Dd} {n : Nat} {q : Dd}, wfBs nm ps m l → l[n]? = some q → wfD nm ps m q
  | [], n, q, _, h => by simp at h
  | p :: r, 0, q, w, h => by
    simp at h
    subst h
    cases m with
    | zero => exact w.elim
    | succ m => exact wfD_mono (Nat.le_succ _) w.1
  | p :: r, n + 1, q, w, h => by
    cases m with
    | zero => exact w.elim
    | succ m => exact wfBs_get (l := r) w.2 (by simpa using h)
theorem wfP_inner {nm : Nat} {ps : List Nat} {p q : Pt} {n : Nat} (w : wfP nm ps p) (h : (innerP p)[n]? = some q) : wfP nm ps q := by
  refine wfPs_get (l := innerP p) ?_ h
  cases p with
  | num => trivial
  | name => trivial
  | bin => exact ⟨w.1, w.2, trivial⟩
  | nt => exact ⟨w, trivial⟩
  | get => exact ⟨w, trivial⟩
  | call => exact w.2
theorem wfD_inner {nm m : Nat} {ps : List Nat} {d : Dd} {q : Pt} {n : Nat} (w : wfD nm ps m d) (h : (innerD d)[n]? = some q) : wfP nm ps q := by
  refine wfPs_get (l := innerD d) ?_ h
  cases d with
  | set => exact ⟨w.2.1, trivial⟩
  | put => exact ⟨w.1, w.2.1, trivial⟩
  | say => exact ⟨w.1, trivial⟩
  | ite => exact ⟨w.1, trivial⟩
  | whl => exact ⟨w.1, trivial⟩
  | ret => exact ⟨w.1, trivial⟩
  | dop => exact ⟨w.1, trivial⟩
theorem szB_get : ∀ {l : List Dd} {n : Nat} {q : Dd}, l[n]? = some q → szD q ≤ szB l
  | [], n, q, h => by simp at h
  | p :: r, 0, q, h => by simp at h; subst h; simp only [szB]; omega
  | p :: r, n + 1, q, h => by
    have := szB_get (l := r) (n := n) (q := q) (by simpa using h)
    simp only [szB]
    omega
theorem ringR (n : Int) : InR (ringI n) := by
  unfold InR ringI
  omega
theorem pairR {op : Op} {a b v : Int} (ha : InR a) (hb : InR b) (h : pairI op a b = some v) : InR v := by
  unfold InR at *
  cases op with
  | add => cases h; exact ringR _
  | take => cases h; exact ringR _
  | times => cases h; exact ringR _
  | over =>
    simp only [pairI] at h
    split at h
    · cases h
    · cases h; exact ringR _
  | rest =>
    simp only [pairI] at h
    split at h
    · cases h
    · rename_i hn
      cases h
      rcases Int.lt_or_gt_of_ne hn with hb' | hb'
      · have h0 := Int.neg_fmod_neg (-a) (-b)
        rw [Int.neg_neg, Int.neg_neg] at h0
        have h1 := Int.fmod_nonneg_of_pos (-a) (b := -b) (by omega)
        have h2 := Int.fmod_lt_of_pos (-a) (b := -b) (by omega)
        omega
      · have h1 := Int.fmod_nonneg_of_pos a hb'
        have h2 := Int.fmod_lt_of_pos a hb'
        omega
  | less =>
    simp only [pairI] at h
    cases h
    split <;> omega
  | same =>
    simp only [pairI] at h
    cases h
    split <;> omega
theorem wfDS_popB {ps : List Nat} {nm c : Nat} : ∀ {s : DS}, wfDS ps nm c s → flat (popB s) ∧ wfDS ps nm c (popB s)
  | .nil, h => ⟨trivial, h⟩
  | .back _ _, h => ⟨trivial, h⟩
  | .body _ _ r, h => wfDS_popB (s := r) h.2.2.2
  | .again _ _ r, h => wfDS_popB (s := r) h.2.2
theorem inR_app {ws : List Int} {v : Int} (h : ∀ x ∈ ws, InR x) (hv : InR v) : ∀ x ∈ ws ++ [v], InR x := by
  intro x hx
  rcases List.mem_append.mp hx with hx | hx
  · exact h x hx
  · simp at hx
    subst hx
    exact hv
theorem inR_set {ws : List Int} {v : Int} {i : Nat} (h : ∀ x ∈ ws, InR x) (hv : InR v) : ∀ x ∈ ws.set i v, InR x := by
  intro x hx
  rcases List.mem_or_eq_of_mem_set hx with hx | hx
  · exact h x hx
  · subst hx; exact hv
theorem inR_handed {fn : Fu} {ws : List Int} (h : ∀ x ∈ ws, InR x) : ∀ x ∈ handed fn ws, InR x := by
  intro x hx
  rcases List.mem_append.mp hx with hx | hx
  · exact h x hx
  · rw [(List.mem_replicate.mp hx).2]
    unfold InR
    omega
structure WfPs (ps : List Nat) (fs : List Fu) : Prop where
  m : fs.map Fu.ps = ps
  pn : ∀ f ∈ fs, f.ps ≤ f.nm
  n8 : ∀ f ∈ fs, f.nm ≤ 8
  wb : ∀ f ∈ fs, wfBs f.nm ps 8 f.body
  sz : ∀ f ∈ fs, szB f.body ≤ 190
theorem handed_len {fn : Fu} {ws : List Int} (h : ws.length = fn.ps) (hp : fn.ps ≤ fn.nm) : (handed fn ws).length = fn.nm := by
  unfold handed
  rw [List.length_append, List.length_replicate]
  omega
theorem WfPs.get {ps : List Nat} {fs : List Fu} (w : WfPs ps fs) {f : Nat} {fn : Fu} {n : Nat} (h : fs[f]? = some fn) (hp : ps[f]? = some n) : n = fn.ps := by
  rw [← w.m, List.getElem?_map, h] at hp
  exact (Option.some.inj hp).symm
theorem lt_of_some {α : Type} {l : List α} {n : Nat} {x : α} (h : l[n]? = some x) : n < l.length := by
  rcases Nat.lt_or_ge n l.length with q | q
  · exact q
  · rw [List.getElem?_eq_none q] at h
    cases h
theorem Step.wf {ps : List Nat} {fs : List Fu} (W : WfPs ps fs) {st st' : St} (w : WfSt ps st) (h : Step fs st st') : WfSt ps st' := by
  obtain ⟨ce, ceR, nmR, n8, fu, ca, c⟩ := w
  cases h with
  | num => exact ⟨ce, ceR, nmR, n8, fu, ca, ⟨by have := c.1; unfold wfP at this; unfold InR; omega, c.2⟩⟩
  | name h => exact ⟨ce, ceR, nmR, n8, fu, ca, ⟨nmR _ (List.mem_of_getElem? h), c.2⟩⟩
  | first h => exact ⟨ce, ceR, nmR, n8, fu, ca, ⟨wfP_inner c.1 h, lt_of_some h, c.1, by simp, c.2⟩⟩
  | next h => exact ⟨ce, ceR, nmR, n8, fu, ca, ⟨wfP_inner c.2.2.1 h, by have := lt_of_some h; rw [List.length_append]; exact this, c.2.2.1, inR_app c.2.2.2.1 c.1, c.2.2.2.2⟩⟩
  | nextD h => exact ⟨ce, ceR, nmR, n8, fu, ca, ⟨wfD_inner c.2.2.1 h, by have := lt_of_some h; rw [List.length_append]; exact this, c.2.2.1, c.2.2.2.1, inR_app c.2.2.2.2.1 c.1, c.2.2.2.2.2⟩⟩
  | bin h => exact ⟨ce, ceR, nmR, n8, fu, ca, ⟨pairR (c.2.2.2.1 _ (by simp)) c.1 h, c.2.2.2.2⟩⟩
  | nt => exact ⟨ce, ceR, nmR, n8, fu, ca, ⟨by unfold InR; split <;> omega, c.2.2.2.2⟩⟩
  | get h0 h => exact ⟨ce, ceR, nmR, n8, fu, ca, ⟨ceR _ (List.mem_of_getElem? h), c.2.2.2.2⟩⟩
  | call0 hf hc =>
    have hm := List.mem_of_getElem? hf
    have hp := W.get hf c.1.1
    have hl := handed_len (ws := []) hp (W.pn _ hm)
    refine ⟨ce, ceR, inR_handed (by simp), by rw [hl]; exact W.n8 _ hm, by simp only at fu ⊢; omega, by simp only at ca ⊢; omega, ?_⟩
    exact ⟨Nat.zero_le _, by rw [hl]; exact W.wb _ hm, W.sz _ hm, _, rfl, nmR, n8, c.2⟩
  | @call _ _ _ _ _ f qs fn v ws s hf hc hl0 =>
    have hm := List.mem_of_getElem? hf
    have hp := W.get hf c.2.2.1.1
    have hl := handed_len (ws := ws ++ [v]) (by rw [List.length_append]; exact hl0.trans hp) (W.pn _ hm)
    refine ⟨ce, ceR, inR_handed (inR_app c.2.2.2.1 c.1), by rw [hl]; exact W.n8 _ hm, by simp only at fu ⊢; omega, by simp only at ca ⊢; omega, ?_⟩
    exact ⟨Nat.zero_le _, by rw [hl]; exact W.wb _ hm, W.sz _ hm, _, rfl, nmR, n8, c.2.2.2.2⟩
  | set => exact ⟨ce, ceR, inR_set nmR c.1, by simpa using n8, fu, ca, by
    show wfDS ps _ _ _
    rw [List.length_set]
    exact c.2.2.2.2.2⟩
  | put h0 h => exact ⟨by simpa using ce, inR_set ceR c.1, nmR, n8, fu, ca, c.2.2.2.2.2⟩
  | say => exact ⟨ce, ceR, nmR, n8, fu, ca, c.2.2.2.2.2⟩
  | @ite _ _ _ _ _ x a b v s =>
    have w := c.2.2.1
    have z := c.2.2.2.1
    simp only [szD] at z
    refine ⟨ce, ceR, nmR, n8, fu, ca, ?_⟩
    split
    · exact ⟨Nat.zero_le _, w.2.2.2, by omega, c.2.2.2.2.2⟩
    · exact ⟨Nat.zero_le _, w.2.2.1, by omega, c.2.2.2.2.2⟩
  | whl0 => exact ⟨ce, ceR, nmR, n8, fu, ca, c.2.2.2.2.2⟩
  | whl h =>
    have w := c.2.2.1
    have z := c.2.2.2.1
    have z' := z
    simp only [szD] at z'
    exact ⟨ce, ceR, nmR, n8, by simp only at fu ⊢; omega, ca, ⟨Nat.zero_le _, w.2.2, by omega, w, z, c.2.2.2.2.2⟩⟩
  | ret =>
    have w := wfDS_popB c.2.2.2.2.2
    exact ⟨ce, ceR, nmR, n8, fu, ca, ⟨c.1, w.1, w.2⟩⟩
  | dop => exact ⟨ce, ceR, nmR, n8, fu, ca, c.2.2.2.2.2⟩
  | @goBack _ _ _ ca' _ ns _ =>
    obtain ⟨c', e, hn, h8, hw⟩ := c
    obtain rfl : ca' = c' := Nat.succ.inj e
    exact ⟨ce, ceR, hn, h8, fu, by simp only at ca ⊢; omega, ⟨by unfold InR; omega, hw⟩⟩
  | @retBack _ _ _ ca' _ ns _ _ =>
    obtain ⟨hv, _, c', e, hn, h8, hw⟩ := c
    obtain rfl : ca' = c' := Nat.succ.inj e
    exact ⟨ce, ceR, hn, h8, fu, by simp only at ca ⊢; omega, ⟨hv, hw⟩⟩
  | deed h hq =>
    have w := wfBs_get c.2.1 h
    have := szB_get h
    exact ⟨ce, ceR, nmR, n8, fu, ca, ⟨wfD_inner w hq, lt_of_some hq, w, Nat.le_trans this c.2.2.1, by simp, lt_of_some h, c.2.1, c.2.2.1, c.2.2.2⟩⟩
  | over h => exact ⟨ce, ceR, nmR, n8, fu, ca, c.2.2.2⟩
  | again => exact ⟨ce, ceR, nmR, n8, fu, ca, ⟨c.1.1, by simp [innerD], c.1, c.2.1, by simp, c.2.2⟩⟩
/-- each step leaves less, and says no more than it leaves less -/
theorem Step.lt {ps : List Nat} {fs : List Fu} (W : WfPs ps fs) {st st' : St} (w : WfSt ps st) (h : Step fs st st') : left st' < left st ∧ st'.said.length + left st' ≤ st.said.length + left st := by
  obtain ⟨ce, ceR, nmR, n8, fu, ca, c⟩ := w
  cases h with
  | num => simp only [left, cC, szP]; omega
  | name h => simp only [left, cC, szP]; omega
  | @first _ _ _ _ _ p q s h =>
    have h1 := szPs_drop h
    have h2 := remP_inner p
    simp only [left, cC, cV, List.length_nil]
    rw [Nat.zero_add] at h1 ⊢
    omega
  | next h =>
    have h1 := szPs_drop h
    simp only [left, cC, cV, List.length_append, List.length_cons, List.length_nil, Nat.zero_add]
    omega
  | nextD h =>
    have h1 := szPs_drop h
    simp only [left, cC, cV, List.length_append, List.length_cons, List.length_nil, Nat.zero_add]
    omega
  | bin h => simp only [left, cC, cV, List.length_cons, List.length_nil]; omega
  | nt => simp only [left, cC, cV, List.length_cons, List.length_nil]; omega
  | get h0 h => simp only [left, cC, cV, List.length_cons, List.length_nil]; omega
  | call0 hf hc =>
    have hs := W.sz _ (List.mem_of_getElem? hf)
    simp only [left, cC, cV, cD, szP, szPs, List.drop_zero, Nat.mul_add]
    omega
  | call hf hc hl =>
    have hs := W.sz _ (List.mem_of_getElem? hf)
    simp only [left, cC, cV, cD, List.drop_zero, Nat.mul_add]
    omega
  | set => simp only [left, cC, cV, List.length_nil]; omega
  | put => simp only [left, cC, cV, List.length_cons, List.length_nil]; omega
  | say => simp only [left, cC, cV, List.length_append, List.length_cons, List.length_nil]; omega
  | ite =>
    simp only [left, cC, cV, cD, bodies, List.length_nil, List.drop_zero]
    split <;> omega
  | whl0 => simp only [left, cC, cV, List.length_nil]; omega
  | whl h =>
    have z := c.2.2.2.1
    have z' := z
    simp only [szD] at z'
    simp only [left, cC, cV, cD, List.drop_zero, Nat.mul_add]
    omega
  | @ret _ _ _ _ _ _ _ s =>
    have := cD_popB s
    simp only [left, cC, cV, List.length_nil]
    omega
  | dop => simp only [left, cC, cV, List.length_nil]; omega
  | goBack => simp only [left, cC, cD]; omega
  | retBack => simp only [left, cC, cD]; omega
  | @deed _ _ _ _ _ _ _ d _ _ h hq =>
    have h1 := szB_drop h
    have h2 := szPs_drop hq
    have h3 := remP_innerD d
    simp only [left, cC, cV, cD, List.length_nil]
    rw [Nat.zero_add] at h2 ⊢
    omega
  | over h => simp only [left, cC, cD]; omega
  | again => simp only [left, cC, cV, cD, szD, bodies, innerD, List.length_nil, remP]; simp [szPs]; omega
end Bq
end

section
set_option maxRecDepth 100000
set_option maxHeartbeats 1000000
namespace Bq
open PySem
/-! ### how the program goes about it: frames with things to do -/
inductive Th where
  | p (p : Pt)
  | d (d : Dd)
def innerT : Th → List Pt
  | .p p => innerP p
  | .d d => innerD d
structure Fr where
  names : List Int
  todo : List (Bool × Th)
  worths : List Int
structure PT where
  said : List Int
  cells : List Int
  fuel : Nat
  fr : List Fr
  told : Int
def asP (l : List Pt) : List (Bool × Th) := l.map fun p => (false, .p p)
def asD (l : List Dd) : List (Bool × Th) := l.map fun d => (false, .d d)
/-- a worth told to the frame around -/
def leaveF (v : Int) (told : Int) : List Fr → List Fr × Int
  | [] => ([], v)
  | g :: r => (⟨g.names, g.todo, g.worths ++ [v]⟩ :: r, told)
inductive PStep (fs : List Fu) : PT → PT → Prop where
  | leave {sd ce fu nm wo r tl} : PStep fs ⟨sd, ce, fu, ⟨nm, [], wo⟩ :: r, tl⟩ ⟨sd, ce, fu, (leaveF 0 tl r).1, (leaveF 0 tl r).2⟩
  | opn {sd ce fu nm t td wo r tl} : PStep fs ⟨sd, ce, fu, ⟨nm, (false, t) :: td, wo⟩ :: r, tl⟩ ⟨sd, ce, fu, ⟨nm, asP (innerT t) ++ (true, t) :: td, wo⟩ :: r, tl⟩
  | num {sd ce fu nm n td wo r tl} : PStep fs ⟨sd, ce, fu, ⟨nm, (true, .p (.num n)) :: td, wo⟩ :: r, tl⟩ ⟨sd, ce, fu, ⟨nm, td, wo ++ [n]⟩ :: r, tl⟩
  | name {sd ce fu nm i v td wo r tl} (h : nm[i]? = some v) : PStep fs ⟨sd, ce, fu, ⟨nm, (true, .p (.name i)) :: td, wo⟩ :: r, tl⟩ ⟨sd, ce, fu, ⟨nm, td, wo ++ [v]⟩ :: r, tl⟩
  | bin {sd ce fu nm op x y a b v td wo r tl} (ha : InR a) (hb : InR b) (h : pairI op a b = some v) : PStep fs ⟨sd, ce, fu, ⟨nm, (true, .p (.bin op x y)) :: td, wo ++ [a, b]⟩ :: r, tl⟩ ⟨sd, ce, fu, ⟨nm, td, wo ++ [v]⟩ :: r, tl⟩
  | nt {sd ce fu nm x a td wo r tl} : PStep fs ⟨sd, ce, fu, ⟨nm, (true, .p (.nt x)) :: td, wo ++ [a]⟩ :: r, tl⟩ ⟨sd, ce, fu, ⟨nm, td, wo ++ [if a = 0 then 1 else 0]⟩ :: r, tl⟩
  | get {sd ce fu nm x a v td wo r tl} (h0 : 0 ≤ a) (h : ce[a.toNat]? = some v) (h6 : ce.length = 64) : PStep fs ⟨sd, ce, fu, ⟨nm, (true, .p (.get x)) :: td, wo ++ [a]⟩ :: r, tl⟩ ⟨sd, ce, fu, ⟨nm, td, wo ++ [v]⟩ :: r, tl⟩
  | call {sd ce fu nm f ps fn ws td wo r tl} (hf : fs[f]? = some fn) (hc : r.length < 60) (hl : ws.length = ps.length) (hp : ws.length = fn.ps) :
      PStep fs ⟨sd, ce, fu + 1, ⟨nm, (true, .p (.call f ps)) :: td, wo ++ ws⟩ :: r, tl⟩ ⟨sd, ce, fu, ⟨handed fn ws, asD fn.body, []⟩ :: ⟨nm, td, wo⟩ :: r, tl⟩
  | set {sd ce fu nm i x v td wo r tl} (hi : i < nm.length) : PStep fs ⟨sd, ce, fu, ⟨nm, (true, .d (.set i x)) :: td, wo ++ [v]⟩ :: r, tl⟩ ⟨sd, ce, fu, ⟨nm.set i v, td, wo⟩ :: r, tl⟩
  | put {sd ce fu nm x y a v td wo r tl} (h0 : 0 ≤ a) (h : a < 64) (h6 : ce.length = 64) : PStep fs ⟨sd, ce, fu, ⟨nm, (true, .d (.put x y)) :: td, wo ++ [a, v]⟩ :: r, tl⟩ ⟨sd, ce.set a.toNat v, fu, ⟨nm, td, wo⟩ :: r, tl⟩
  | say {sd ce fu nm x v td wo r tl} : PStep fs ⟨sd, ce, fu, ⟨nm, (true, .d (.say x)) :: td, wo ++ [v]⟩ :: r, tl⟩ ⟨sd ++ [v], ce, fu, ⟨nm, td, wo⟩ :: r, tl⟩
  | ite {sd ce fu nm x a b v td wo r tl} : PStep fs ⟨sd, ce, fu, ⟨nm, (true, .d (.ite x a b)) :: td, wo ++ [v]⟩ :: r, tl⟩ ⟨sd, ce, fu, ⟨nm, asD (if v = 0 then b else a) ++ td, wo⟩ :: r, tl⟩
  | whl0 {sd ce fu nm x b td wo r tl} : PStep fs ⟨sd, ce, fu, ⟨nm, (true, .d (.whl x b)) :: td, wo ++ [0]⟩ :: r, tl⟩ ⟨sd, ce, fu, ⟨nm, td, wo⟩ :: r, tl⟩
  | whl {sd ce fu nm x b v td wo r tl} (h : v ≠ 0) : PStep fs ⟨sd, ce, fu + 1, ⟨nm, (true, .d (.whl x b)) :: td, wo ++ [v]⟩ :: r, tl⟩ ⟨sd, ce, fu, ⟨nm, asD b ++ (false, .d (.whl x b)) :: td, wo⟩ :: r, tl⟩
  | ret {sd ce fu nm x v td wo r tl} : PStep fs ⟨sd, ce, fu, ⟨nm, (true, .d (.ret x)) :: td, wo ++ [v]⟩ :: r, tl⟩ ⟨sd, ce, fu, (leaveF v tl r).1, (leaveF v tl r).2⟩
  | dop {sd ce fu nm x v td wo r tl} : PStep fs ⟨sd, ce, fu, ⟨nm, (true, .d (.dop x)) :: td, wo ++ [v]⟩ :: r, tl⟩ ⟨sd, ce, fu, ⟨nm, td, wo⟩ :: r, tl⟩
inductive PEnds (fs : List Fu) : PT → Fi → Prop where
  | over {sd ce fu v} : PEnds fs ⟨sd, ce, fu, [], v⟩ ⟨sd, ce, .worth v⟩
  | bin {sd ce fu nm op x y a b td wo r tl} (ha : InR a) (hb : InR b) (h : pairI op a b = none) : PEnds fs ⟨sd, ce, fu, ⟨nm, (true, .p (.bin op x y)) :: td, wo ++ [a, b]⟩ :: r, tl⟩ ⟨sd, ce, .fault "over"⟩
  | get {sd ce fu nm x a td wo r tl} (h : ¬ (0 ≤ a ∧ a < 64)) : PEnds fs ⟨sd, ce, fu, ⟨nm, (true, .p (.get x)) :: td, wo ++ [a]⟩ :: r, tl⟩ ⟨sd, ce, .fault "cell"⟩
  | put {sd ce fu nm x y a v td wo r tl} (h : ¬ (0 ≤ a ∧ a < 64)) : PEnds fs ⟨sd, ce, fu, ⟨nm, (true, .d (.put x y)) :: td, wo ++ [a, v]⟩ :: r, tl⟩ ⟨sd, ce, .fault "cell"⟩
  | deep {sd ce fu nm f ps ws td wo r tl} (hc : 60 ≤ r.length) (hl : ws.length = ps.length) : PEnds fs ⟨sd, ce, fu, ⟨nm, (true, .p (.call f ps)) :: td, wo ++ ws⟩ :: r, tl⟩ ⟨sd, ce, .fault "deep"⟩
  | long {sd ce nm f ps ws td wo r tl} (hc : r.length < 60) (hl : ws.length = ps.length) : PEnds fs ⟨sd, ce, 0, ⟨nm, (true, .p (.call f ps)) :: td, wo ++ ws⟩ :: r, tl⟩ ⟨sd, ce, .long⟩
  | longW {sd ce nm x b v td wo r tl} (h : v ≠ 0) : PEnds fs ⟨sd, ce, 0, ⟨nm, (true, .d (.whl x b)) :: td, wo ++ [v]⟩ :: r, tl⟩ ⟨sd, ce, .long⟩
def lenF (f : Fr) : Nat := f.todo.length + f.worths.length
structure Sm (T : PT) : Prop where
  said : T.said.length ≤ 8000000
  fr : ∀ f ∈ T.fr, lenF f ≤ 8000000
  n : T.fr.length ≤ 61
inductive PRun (fs : List Fu) : Nat → PT → Fi → Prop where
  | fin {T f} (s : Sm T) (h : PEnds fs T f) : PRun fs 0 T f
  | step {T T' n f} (s : Sm T) (h : PStep fs T T') (r : PRun fs n T' f) : PRun fs (n + 1) T f
/-! ### the one told by the other -/
mutual
def cvV : VS → List (Bool × Th) × List Int × List Fr
  | .part t ws r => (asP ((innerP t).drop (ws.length + 1)) ++ (true, .p t) :: (cvV r).1, (cvV r).2.1 ++ ws, (cvV r).2.2)
  | .deed d ws r => (asP ((innerD d).drop (ws.length + 1)) ++ (true, .d d) :: (cvD r).1, (cvD r).2.1 ++ ws, (cvD r).2.2)
def cvD : DS → List (Bool × Th) × List Int × List Fr
  | .nil => ([], [], [])
  | .back ns r => ([], [], ⟨ns, (cvV r).1, (cvV r).2.1⟩ :: (cvV r).2.2)
  | .body b i r => (asD (b.drop i) ++ (cvD r).1, (cvD r).2.1, (cvD r).2.2)
  | .again p b r => ((false, .d (.whl p b)) :: (cvD r).1, (cvD r).2.1, (cvD r).2.2)
end
def cvC (nm : List Int) : Ctl → List Fr × Int
  | .look p s => (⟨nm, (false, .p p) :: (cvV s).1, (cvV s).2.1⟩ :: (cvV s).2.2, 0)
  | .give v s => (⟨nm, (cvV s).1, (cvV s).2.1 ++ [v]⟩ :: (cvV s).2.2, 0)
  | .go s => (⟨nm, (cvD s).1, (cvD s).2.1⟩ :: (cvD s).2.2, 0)
  | .ret v s => leaveF v 0 (cvD s).2.2
def conv (st : St) : PT := ⟨st.said, st.cells, st.fuel, (cvC st.names st.c).1, (cvC st.names st.c).2⟩
theorem remP_le (l : List Pt) : l.length ≤ szPs l := by
  induction l with
  | nil => exact Nat.le_refl _
  | cons p r ih =>
    have : 1 ≤ szP p := by cases p <;> simp only [szP] <;> omega
    simp only [szPs, List.length_cons]
    omega
theorem szB_len (l : List Dd) : l.length ≤ szB l := by
  induction l with
  | nil => exact Nat.le_refl _
  | cons p r ih =>
    have : 1 ≤ szD p := by cases p <;> simp only [szD] <;> omega
    simp only [szB, List.length_cons]
    omega
mutual
theorem cvV_len : ∀ s : VS, (cvV s).1.length + (cvV s).2.1.length ≤ cV s ∧ ∀ f ∈ (cvV s).2.2, lenF f ≤ cV s
  | .part t ws r => by
    have h := cvV_len r
    have h1 := remP_le ((innerP t).drop (ws.length + 1))
    simp only [cvV, cV, remP, asP, List.length_append, List.length_cons, List.length_map]
    exact ⟨by omega, fun f hf => Nat.le_trans (h.2 f hf) (by omega)⟩
  | .deed d ws r => by
    have h := cvD_len r
    have h1 := remP_le ((innerD d).drop (ws.length + 1))
    simp only [cvV, cV, remP, asP, List.length_append, List.length_cons, List.length_map]
    exact ⟨by omega, fun f hf => Nat.le_trans (h.2 f hf) (by omega)⟩
theorem cvD_len : ∀ s : DS, (cvD s).1.length + (cvD s).2.1.length ≤ cD s ∧ ∀ f ∈ (cvD s).2.2, lenF f ≤ cD s
  | .nil => ⟨Nat.le_refl _, fun f hf => by simp [cvD] at hf⟩
  | .back ns r => by
    have h := cvV_len r
    simp only [cvD, cD, List.length_nil]
    refine ⟨by omega, fun f hf => ?_⟩
    rcases List.mem_cons.mp hf with rfl | hf
    · simp only [lenF]; omega
    · exact Nat.le_trans (h.2 f hf) (by omega)
  | .body b i r => by
    have h := cvD_len r
    have h1 := szB_len (b.drop i)
    simp only [cvD, cD, asD, List.length_append, List.length_map]
    exact ⟨by omega, fun f hf => Nat.le_trans (h.2 f hf) (by omega)⟩
  | .again p b r => by
    have h := cvD_len r
    simp only [cvD, cD, List.length_cons]
    exact ⟨by omega, fun f hf => Nat.le_trans (h.2 f hf) (by omega)⟩
end
mutual
theorem cvV_n {ps : List Nat} : ∀ {nm c : Nat} {s : VS}, wfVS ps nm c s → (cvV s).2.2.length = c
  | _, _, .part _ _ r, h => cvV_n (s := r) h.2.2.2
  | _, _, .deed _ _ r, h => cvD_n (s := r) h.2.2.2.2
theorem cvD_n {ps : List Nat} : ∀ {nm c : Nat} {s : DS}, wfDS ps nm c s → (cvD s).2.2.length = c
  | _, _, .nil, h => (show _ = 0 from h).symm
  | _, _, .back _ r, ⟨c', e, _, _, h⟩ => by
    rw [e]
    exact congrArg Nat.succ (cvV_n (s := r) h)
  | _, _, .body _ _ r, h => cvD_n (s := r) h.2.2.2
  | _, _, .again _ _ r, h => cvD_n (s := r) h.2.2
end
theorem leaveF_len (v t : Int) (l : List Fr) : (leaveF v t l).1.length = l.length := by
  cases l <;> rfl
theorem cvD_popB : ∀ s : DS, (cvD (popB s)).2.2 = (cvD s).2.2
  | .nil => rfl
  | .back _ _ => rfl
  | .body _ _ r => cvD_popB r
  | .again _ _ r => cvD_popB r
theorem conv_sm {ps : List Nat} {st : St} (w : WfSt ps st) (h : st.said.length + left st ≤ 4000000) : Sm (conv st) := by
  obtain ⟨ce, ceR, nmR, n8, fu, ca, c⟩ := w
  obtain ⟨sd, ces, fuel, calls, nm, ct⟩ := st
  simp only [left] at h
  refine ⟨by simp only [conv]; omega, ?_, ?_⟩
  · intro f hf
    cases ct with
    | look p s =>
      have h1 := cvV_len s
      simp only [cC] at h
      rcases List.mem_cons.mp hf with rfl | hf
      · simp only [lenF, List.length_cons]; omega
      · exact Nat.le_trans (h1.2 f hf) (by omega)
    | give p s =>
      have h1 := cvV_len s
      simp only [cC] at h
      rcases List.mem_cons.mp hf with rfl | hf
      · simp only [lenF, List.length_append, List.length_cons, List.length_nil]; omega
      · exact Nat.le_trans (h1.2 f hf) (by omega)
    | go s =>
      have h1 := cvD_len s
      simp only [cC] at h
      rcases List.mem_cons.mp hf with rfl | hf
      · simp only [lenF]; omega
      · exact Nat.le_trans (h1.2 f hf) (by omega)
    | ret v s =>
      have h1 := cvD_len s
      simp only [cC] at h
      simp only [conv, cvC] at hf
      generalize (cvD s).2.2 = l at h1 hf
      cases l with
      | nil => simp [leaveF] at hf
      | cons g r =>
        rcases List.mem_cons.mp hf with rfl | hf
        · have := h1.2 g (by simp)
          simp only [lenF] at this
          simp only [lenF, List.length_append, List.length_cons, List.length_nil]; omega
        · exact Nat.le_trans (h1.2 f (by simp [hf])) (by omega)
  · simp only at ca
    cases ct with
    | look p s => have : _ = calls := cvV_n c.2; simp only [conv, cvC, List.length_cons]; omega
    | give p s => have : _ = calls := cvV_n c.2; simp only [conv, cvC, List.length_cons]; omega
    | go s => have : _ = calls := cvD_n c; simp only [conv, cvC, List.length_cons]; omega
    | ret v s => have : _ = calls := cvD_n c.2.2; simp only [conv, cvC, leaveF_len]; omega
/-- a run of the other that begins with the same -/
theorem innerP_drop {p q : Pt} {n : Nat} (h : (innerP p)[n]? = some q) : asP ((innerP p).drop n) = (false, .p q) :: asP ((innerP p).drop (n + 1)) := by
  have hn := lt_of_some h
  rw [List.drop_eq_getElem_cons hn]
  rw [List.getElem?_eq_getElem hn] at h
  cases h
  rfl
theorem innerD_drop {p : Dd} {q : Pt} {n : Nat} (h : (innerD p)[n]? = some q) : asP ((innerD p).drop n) = (false, .p q) :: asP ((innerD p).drop (n + 1)) := by
  have hn := lt_of_some h
  rw [List.drop_eq_getElem_cons hn]
  rw [List.getElem?_eq_getElem hn] at h
  cases h
  rfl
theorem body_drop {b : List Dd} {d : Dd} {n : Nat} (h : b[n]? = some d) : asD (b.drop n) = (false, .d d) :: asD (b.drop (n + 1)) := by
  have hn := lt_of_some h
  rw [List.drop_eq_getElem_cons hn]
  rw [List.getElem?_eq_getElem hn] at h
  cases h
  rfl
def fewer (T : PT) : Prop := T.said.length ≤ 7999000 ∧ (∀ f ∈ T.fr, lenF f ≤ 7999000) ∧ T.fr.length ≤ 61
theorem conv_sm' {ps : List Nat} {st : St} (w : WfSt ps st) (h : st.said.length + left st ≤ 4000000) : Sm (conv st) := conv_sm w h
/-- one to do opened -/
theorem opn_run {fs : List Fu} {sd ce : List Int} {fu n : Nat} {nm wo : List Int} {t : Th} {td : List (Bool × Th)} {r : List Fr} {tl : Int} {f : Fi} (s : Sm ⟨sd, ce, fu, ⟨nm, (false, t) :: td, wo⟩ :: r, tl⟩)
    (h : PRun fs n ⟨sd, ce, fu, ⟨nm, asP (innerT t) ++ (true, t) :: td, wo⟩ :: r, tl⟩ f) : PRun fs (n + 1) ⟨sd, ce, fu, ⟨nm, (false, t) :: td, wo⟩ :: r, tl⟩ f := .step s .opn h
theorem Sm.opened {sd ce : List Int} {fu : Nat} {nm wo : List Int} {t : Th} {td : List (Bool × Th)} {r : List Fr} {tl : Int} (s : Sm ⟨sd, ce, fu, ⟨nm, (false, t) :: td, wo⟩ :: r, tl⟩) : Sm ⟨sd, ce, fu, ⟨nm, (true, t) :: td, wo⟩ :: r, tl⟩ := by
  refine ⟨s.said, fun f hf => ?_, s.n⟩
  rcases List.mem_cons.mp hf with rfl | hf
  · exact s.fr ⟨nm, (false, t) :: td, wo⟩ (by simp)
  · exact s.fr f (by simp [hf])
theorem sim {ps : List Nat} {fs : List Fu} (W : WfPs ps fs) {st st' : St} (w : WfSt ps st) (hs : st.said.length + left st ≤ 4000000) (h : Step fs st st') {n : Nat} {f : Fi} (r : PRun fs n (conv st') f) : ∃ n', PRun fs n' (conv st) f := by
  have sm := conv_sm w hs
  obtain ⟨ce, ceR, nmR, n8, fu, ca, c⟩ := w
  cases h with
  | num => exact ⟨_, .step sm .opn (.step sm.opened .num r)⟩
  | name h => exact ⟨_, .step sm .opn (.step sm.opened (.name h) r)⟩
  | @first _ _ _ _ _ p q s h =>
    refine ⟨n + 1, .step sm .opn ?_⟩
    have e := innerP_drop h
    rw [List.drop_zero] at e
    simp only [innerT, e, List.cons_append]
    simp only [conv, cvC, cvV, List.length_nil, List.append_nil] at r
    exact r
  | next h =>
    refine ⟨n, ?_⟩
    have e := innerP_drop h
    simp only [conv, cvC, cvV, List.length_append, List.length_cons, List.length_nil, Nat.zero_add] at r
    simp only [conv, cvC, cvV, e, List.cons_append, List.append_assoc]
    rw [← List.append_assoc] at r ⊢
    exact r
  | nextD h =>
    refine ⟨n, ?_⟩
    have e := innerD_drop h
    simp only [conv, cvC, cvV, List.length_append, List.length_cons, List.length_nil, Nat.zero_add] at r
    simp only [conv, cvC, cvV, e, List.cons_append, List.append_assoc]
    rw [← List.append_assoc] at r ⊢
    exact r
  | bin h =>
    refine ⟨_, .step sm ?_ r⟩
    simp only [conv, cvC, cvV, innerP, List.length_cons, List.length_nil, List.drop_succ_cons, List.drop_nil, asP, List.map_nil, List.nil_append, List.append_assoc, List.cons_append]
    exact .bin (c.2.2.2.1 _ (by simp)) c.1 h
  | nt =>
    refine ⟨_, .step sm ?_ r⟩
    simp only [conv, cvC, cvV, innerP, List.length_cons, List.length_nil, List.drop_succ_cons, List.drop_nil, asP, List.map_nil, List.nil_append, List.append_nil]
    exact .nt
  | get h0 h =>
    refine ⟨_, .step sm ?_ r⟩
    simp only [conv, cvC, cvV, innerP, List.length_cons, List.length_nil, List.drop_succ_cons, List.drop_nil, asP, List.map_nil, List.nil_append, List.append_nil]
    exact .get h0 h ce
  | @call0 sd cee fuu caa nmm f fn s hf hc =>
    have hn := cvV_n c.2
    refine ⟨_, .step sm .opn (.step sm.opened ?_ r)⟩
    have h2 := PStep.call (fs := fs) (sd := sd) (ce := cee) (fu := fuu) (nm := nmm) (f := f) (ps := []) (fn := fn) (ws := []) (td := (cvV s).1) (wo := (cvV s).2.1) (r := (cvV s).2.2) (tl := 0) hf (by simp only at hn; omega) rfl (W.get hf c.1.1)
    rw [List.append_nil] at h2
    simp only [conv, cvC, cvD, innerT, innerP, asP, List.map_nil, List.nil_append, List.drop_zero, List.append_nil]
    exact h2
  | @call sd cee fuu caa nmm f qs fn v ws s hf hc hl =>
    have hn := cvV_n c.2.2.2.2
    have hp := W.get hf c.2.2.1.1
    refine ⟨_, .step sm ?_ r⟩
    have h2 := PStep.call (fs := fs) (sd := sd) (ce := cee) (fu := fuu) (nm := nmm) (f := f) (ps := qs) (fn := fn) (ws := ws ++ [v]) (td := (cvV s).1) (wo := (cvV s).2.1) (r := (cvV s).2.2) (tl := 0) hf (by simp only at hn; omega) (by rw [List.length_append]; exact hl) (by rw [List.length_append]; exact hl.trans hp)
    simp only [conv, cvC, cvV, cvD, innerP, List.drop_eq_nil_of_le (Nat.le_of_eq hl.symm), asP, List.map_nil, List.nil_append, List.drop_zero, List.append_nil, List.append_assoc]
    exact h2
  | set =>
    refine ⟨_, .step sm ?_ r⟩
    simp only [conv, cvC, cvV, innerD, List.length_cons, List.length_nil, List.drop_succ_cons, List.drop_nil, asP, List.map_nil, List.nil_append, List.append_nil]
    exact .set c.2.2.1.1
  | put h0 h =>
    refine ⟨_, .step sm ?_ r⟩
    simp only [conv, cvC, cvV, innerD, List.length_cons, List.length_nil, List.drop_succ_cons, List.drop_nil, asP, List.map_nil, List.nil_append, List.append_assoc, List.cons_append]
    exact .put h0 h ce
  | say =>
    refine ⟨_, .step sm ?_ r⟩
    simp only [conv, cvC, cvV, innerD, List.length_cons, List.length_nil, List.drop_succ_cons, List.drop_nil, asP, List.map_nil, List.nil_append, List.append_nil]
    exact .say
  | ite =>
    refine ⟨_, .step sm ?_ r⟩
    simp only [conv, cvC, cvV, cvD, innerD, List.length_cons, List.length_nil, List.drop_succ_cons, List.drop_nil, asP, List.map_nil, List.nil_append, List.append_nil, List.drop_zero]
    exact .ite
  | whl0 =>
    refine ⟨_, .step sm ?_ r⟩
    simp only [conv, cvC, cvV, innerD, List.length_cons, List.length_nil, List.drop_succ_cons, List.drop_nil, asP, List.map_nil, List.nil_append, List.append_nil]
    exact .whl0
  | whl h =>
    refine ⟨_, .step sm ?_ r⟩
    simp only [conv, cvC, cvV, cvD, innerD, List.length_cons, List.length_nil, List.drop_succ_cons, List.drop_nil, asP, List.map_nil, List.nil_append, List.append_nil, List.drop_zero]
    exact .whl h
  | ret =>
    refine ⟨_, .step sm ?_ r⟩
    simp only [conv, cvC, cvV, cvD_popB, innerD, List.length_cons, List.length_nil, List.drop_succ_cons, List.drop_nil, asP, List.map_nil, List.nil_append, List.append_nil]
    exact .ret
  | dop =>
    refine ⟨_, .step sm ?_ r⟩
    simp only [conv, cvC, cvV, innerD, List.length_cons, List.length_nil, List.drop_succ_cons, List.drop_nil, asP, List.map_nil, List.nil_append, List.append_nil]
    exact .dop
  | goBack => exact ⟨_, .step sm .leave r⟩
  | retBack => exact ⟨_, r⟩
  | @deed sd cee fuu caa nmm b i d q s h hq =>
    refine ⟨_, .step sm ?_ r⟩
    have e := innerD_drop hq
    rw [List.drop_zero] at e
    simp only [conv, cvC, cvV, cvD, body_drop h, List.length_nil, List.append_nil, Nat.zero_add, List.cons_append]
    have h2 := PStep.opn (fs := fs) (sd := sd) (ce := cee) (fu := fuu) (nm := nmm) (t := .d d) (td := asD (b.drop (i + 1)) ++ (cvD s).1) (wo := (cvD s).2.1) (r := (cvD s).2.2) (tl := 0)
    simp only [innerT, e, List.cons_append] at h2
    exact h2
  | over h =>
    refine ⟨n, ?_⟩
    simp only [conv, cvC, cvD, List.drop_eq_nil_of_le h, asD, List.map_nil, List.nil_append]
    exact r
  | again =>
    refine ⟨_, .step sm ?_ r⟩
    simp only [conv, cvC, cvV, cvD, List.length_nil, List.append_nil, Nat.zero_add]
    exact .opn
theorem simE {ps : List Nat} {fs : List Fu} (W : WfPs ps fs) {st : St} (w : WfSt ps st) (hs : st.said.length + left st ≤ 4000000) {f : Fi} (h : Ends fs st f) : ∃ n', PRun fs n' (conv st) f := by
  have sm := conv_sm w hs
  obtain ⟨ce, ceR, nmR, n8, fu, ca, c⟩ := w
  cases h with
  | go => exact ⟨_, .step sm .leave (.fin ⟨sm.said, fun f hf => by simp [cvD, leaveF] at hf, by simp [cvD, leaveF]⟩ .over)⟩
  | ret => exact ⟨0, .fin sm .over⟩
  | bin h =>
    refine ⟨0, .fin sm ?_⟩
    simp only [conv, cvC, cvV, innerP, List.length_cons, List.length_nil, List.drop_succ_cons, List.drop_nil, asP, List.map_nil, List.nil_append, List.append_assoc, List.cons_append]
    exact .bin (c.2.2.2.1 _ (by simp)) c.1 h
  | get h =>
    refine ⟨0, .fin sm ?_⟩
    simp only [conv, cvC, cvV, innerP, List.length_cons, List.length_nil, List.drop_succ_cons, List.drop_nil, asP, List.map_nil, List.nil_append, List.append_nil]
    exact .get h
  | put h =>
    refine ⟨0, .fin sm ?_⟩
    simp only [conv, cvC, cvV, innerD, List.length_cons, List.length_nil, List.drop_succ_cons, List.drop_nil, asP, List.map_nil, List.nil_append, List.append_assoc, List.cons_append]
    exact .put h
  | @deep0 sd cee fuu caa nmm f s hc =>
    have hn : _ = _ := cvV_n c.2
    refine ⟨_, .step sm .opn (.fin sm.opened ?_)⟩
    have h2 := PEnds.deep (fs := fs) (sd := sd) (ce := cee) (fu := fuu) (nm := nmm) (f := f) (ps := []) (ws := []) (td := (cvV s).1) (wo := (cvV s).2.1) (r := (cvV s).2.2) (tl := 0) (by simp only at hn; omega) rfl
    rw [List.append_nil] at h2
    exact h2
  | @deep sd cee fuu caa nmm f qs v ws s hc hl =>
    have hn := cvV_n c.2.2.2.2
    refine ⟨0, .fin sm ?_⟩
    have h2 := PEnds.deep (fs := fs) (sd := sd) (ce := cee) (fu := fuu) (nm := nmm) (f := f) (ps := qs) (ws := ws ++ [v]) (td := (cvV s).1) (wo := (cvV s).2.1) (r := (cvV s).2.2) (tl := 0) (by simp only at hn; omega) (by rw [List.length_append]; exact hl)
    simp only [conv, cvC, cvV, innerP, List.drop_eq_nil_of_le (Nat.le_of_eq hl.symm), asP, List.map_nil, List.nil_append, List.append_assoc]
    exact h2
  | @long0 sd cee caa nmm f s hc =>
    have hn : _ = _ := cvV_n c.2
    refine ⟨_, .step sm .opn (.fin sm.opened ?_)⟩
    have h2 := PEnds.long (fs := fs) (sd := sd) (ce := cee) (nm := nmm) (f := f) (ps := []) (ws := []) (td := (cvV s).1) (wo := (cvV s).2.1) (r := (cvV s).2.2) (tl := 0) (by simp only at hn; omega) rfl
    rw [List.append_nil] at h2
    exact h2
  | @long sd cee caa nmm f qs v ws s hc hl =>
    have hn := cvV_n c.2.2.2.2
    refine ⟨0, .fin sm ?_⟩
    have h2 := PEnds.long (fs := fs) (sd := sd) (ce := cee) (nm := nmm) (f := f) (ps := qs) (ws := ws ++ [v]) (td := (cvV s).1) (wo := (cvV s).2.1) (r := (cvV s).2.2) (tl := 0) (by simp only at hn; omega) (by rw [List.length_append]; exact hl)
    simp only [conv, cvC, cvV, innerP, List.drop_eq_nil_of_le (Nat.le_of_eq hl.symm), asP, List.map_nil, List.nil_append, List.append_assoc]
    exact h2
  | longW h =>
    refine ⟨0, .fin sm ?_⟩
    simp only [conv, cvC, cvV, innerD, List.length_cons, List.length_nil, List.drop_succ_cons, List.drop_nil, asP, List.map_nil, List.nil_append, List.append_nil]
    exact .longW h
inductive Run (fs : List Fu) : St → Fi → Prop where
  | fin {st f} (h : Ends fs st f) : Run fs st f
  | step {st st' f} (h : Step fs st st') (r : Run fs st' f) : Run fs st f
theorem Run.sim {ps : List Nat} {fs : List Fu} (W : WfPs ps fs) {st : St} {f : Fi} (r : Run fs st f) : WfSt ps st → st.said.length + left st ≤ 4000000 → ∃ n, PRun fs n (conv st) f := by
  induction r with
  | fin h => exact fun w hs => simE W w hs h
  | step h r ih =>
    intro w hs
    have l := h.lt W w
    obtain ⟨n, q⟩ := ih (h.wf W w) (Nat.le_trans l.2 hs)
    exact Bq.sim W w hs h q
end Bq
end

section
set_option maxRecDepth 100000
set_option maxHeartbeats 1000000
open Bq L2
/-- one step of a reading; what is left are side goals and places to think -/
local macro_rules | `(tactic| walk_at "g1") => `(tactic| first
  | with_reducible refine' g_seq ?_ | with_reducible refine' g_asg ?_ | with_reducible refine' g_drop ?_ | with_reducible refine' g_ret ?_ | with_reducible refine' g_ifS ?_ | with_reducible refine' g_asgG ?_
  | ((with_reducible refine' g_var ?hv ?_); (case hv => rfl))
  | with_reducible refine' g_c ?_ | with_reducible refine' g_op ?_ | with_reducible refine' g_un ?_ | with_reducible refine' g_I0 ?_ | with_reducible refine' g_U ?_
  | with_reducible refine' g_test ?_ | with_reducible refine' g_tB ?_ | with_reducible refine Exists.intro _ (And.intro rfl ?_) 
  | ((with_reducible refine' g_andP ?ha ?hb ?_); (case ha => intro R q; walk_at "g"; exact q); (case hb => intro R q; walk_at "g"; exact q))
  | ((with_reducible refine' g_orP ?ha ?hb ?_); (case ha => intro R q; walk_at "g"; exact q); (case hb => intro R q; walk_at "g"; exact q))
  | with_reducible refine' g_and ?_ | with_reducible refine' g_or ?_ | with_reducible refine' g_not ?_
  | with_reducible refine' g_andV ?_ | with_reducible refine' g_orV ?_ | with_reducible refine' g_notV ?_ | with_reducible refine' g_if ?_ | with_reducible refine' g_nil ?_ | with_reducible refine' g_cons ?_
  | with_reducible refine' g_tup ?_ | with_reducible refine' g_lst ?_ | with_reducible refine' g_CB ?_ | with_reducible refine' g_Fn ?_ | with_reducible refine' g_next ?_ | with_reducible refine' g_retN ?_
  | with_reducible refine' g_name ?_ | with_reducible refine' g_sub ?_
  | ((with_reducible refine' g_ixL ?hs ?he ?_); (case hs => walk_at "lk"); (case he => walk_at "at"))
  | ((with_reducible refine' g_ixT ?hs ?he ?_); (case hs => walk_at "lk"); (case he => walk_at "at"))
  | ((with_reducible refine' g_setL ?hs ?he ?_); (case hs => walk_at "hp"); (case he => rfl))
  | ((with_reducible refine' g_app ?hs ?hz ?_); (case hs => walk_at "hp"); (case hz => walk_at "sz"))
  | ((with_reducible refine' ⟨_, _, rfl, Or.inl ?hs, ?_⟩); (case hs => walk_at "lk"))
  | ((with_reducible refine' ⟨_, _, rfl, Or.inr ?hs, ?_⟩); (case hs => walk_at "lk"))
  | with_reducible refine' g_BM ?_ | with_reducible refine' g_BM0 ?_ | ((with_reducible refine' g_tyL ?hs ?_); (case hs => walk_at "lk"))
  | with_reducible refine' g_sl ?_ | with_reducible refine' g_noPart ?_ | with_reducible refine' g_part ?_
  | ((with_reducible refine' g_inT ?hs ?fx ?fs ?_); (case hs => walk_at "lk"); (case fx => rfl); (case fs => rfl))
  | with_reducible refine' g_pair ?_ | with_reducible refine' g_pair0 ?_ | with_reducible refine' g_disp ?_
  | with_reducible refine' g_for ?_ | with_reducible refine' g_tupC ?_ | with_reducible refine' g_lstC ?_ | ((with_reducible refine' g_lens ?_)) | with_reducible refine' g_dg ?_ | with_reducible refine' g_lc ?_ | with_reducible refine' g_rng1 ?_ | with_reducible refine' g_ilist ?_ | with_reducible refine' g_itup ?_
  | ((with_reducible refine' ⟨_, _, rfl, ?hd, ?_⟩); (case hd => walk_at "dg"))
  | ((with_reducible refine' g_eqNil ?hs ?hz ?_); (case hs => walk_at "lk"); (case hz => walk_at "lk"))
  | ((with_reducible refine' g_neNil ?hs ?hz ?_); (case hs => walk_at "lk"); (case hz => walk_at "lk"))
  | with_reducible refine Or.inl ⟨_, rfl, ?_⟩
  | with_reducible refine Or.inr ⟨_, rfl, ?_⟩
  | ((with_reducible refine' g_eq ?hs ?_); (case hs => rfl))
  | ((with_reducible refine' g_ne ?hs ?_); (case hs => rfl))
  | ((with_reducible refine' g_I ?hc ?_); (case hc => walk_at "ar")))
/-- arithmetic's side conditions -/
local macro_rules | `(tactic| walk_at "ar") => `(tactic| (first
  | (show (0 : Int) < _; first | omega | decide) | (show (0 : Int) < _ ∧ _; constructor <;> omega) | (show ¬ (_ : Int) = _; omega) | (show (_ : Int) ≠ _ ∧ _; constructor <;> omega)
  | (show (-(2 ^ 64) < _ ∧ _) ∨ _; (first | (left; constructor <;> omega) | (right; constructor <;> omega))) | (show (0 : Int) ≤ _ ∧ _ ∧ _; refine ⟨by omega, by omega, by decide⟩)))
/-- what stands at an index -/
local macro_rules | `(tactic| walk_at "at") => `(tactic| first | rfl | assumption)
/-- what stands at an address -/
local macro_rules | `(tactic| walk_at "hp") => `(tactic| first | assumption | exact upd_same | ((refine' Eq.trans (upd_ne ?hn) ?hm); (case hm => walk_at "hp"); (case hn => walk_at "ne")))
/-- two places are two -/
local macro_rules | `(tactic| walk_at "ne") => `(tactic| first
  | assumption | exact Ne.symm (by assumption)
  | ((refine' ne_of_none ?ha ?hb); (case hb => assumption); (case ha => walk_at "hp")) | ((refine' Ne.symm (ne_of_none ?ha ?hb)); (case hb => assumption); (case ha => walk_at "hp")))
/-- what a dict tells -/
local macro_rules | `(tactic| walk_at "dg") => `(tactic| first | assumption)
/-- a length -/
local macro_rules | `(tactic| walk_at "sz") => `(tactic| first | (show _ ≤ sizeLine; decide) | (show _ < sizeLine; decide) | assumption | exact szlt (by simp) | exact szle (by simp))
/-- a list or tuple that stands -/
local macro_rules | `(tactic| walk_at "lk") => `(tactic| first | assumption | exact SqL.of (by assumption) | exact SqT.of (by assumption) | exact SqL.of upd_same | exact SqT.of upd_same | (refine' FzL.sq ?hm; (case hm => walk_at "fz")))
/-- a list that nobody writes -/
local macro_rules | `(tactic| walk_at "fz") => `(tactic| first | assumption | ((refine' FzL.uw ?hm ?hx); (case hx => walk_at "hp"); (case hm => walk_at "fz")) | ((refine' FzL.nw ?hm ?hx); (case hx => assumption); (case hm => walk_at "fz")))
/-- as far as it goes by itself -/
local macro_rules | `(tactic| walk_at "g") => `(tactic| repeat walk_at "g1")
/-- the body's reading, its places in short -/
local macro_rules | `(tactic| walk_at "go") => `(tactic| ((try dsimp only [cxOf, Cx.nox, Cx.wish]); walk_at "g"))
namespace K3
open PySem PySem.Spec PyProof.Rows L2 Bq
section
variable {P : Program} {w : World} {K : PySem.W.Frag} {mg : Str → Option Value} {base : Heap}
/-! ### what stands within a thing -/
def encT : Th → T
  | .p p => encP p
  | .d d => encDd d
def wdT : Th → Str
  | .p (.num _) => "num"
  | .p (.name _) => "name"
  | .p (.bin op _ _) => op.str
  | .p (.nt _) => "not"
  | .p (.get _) => "get"
  | .p (.call _ _) => "call"
  | .d (.set _ _) => "set"
  | .d (.put _ _) => "put"
  | .d (.say _) => "say"
  | .d (.ite _ _ _) => "if"
  | .d (.whl _ _) => "while"
  | .d (.ret _) => "return"
  | .d (.dop _) => "do"
def restT : Th → List T
  | .p (.num n) => [.int n]
  | .p (.name i) => [.int i]
  | .p (.bin _ a b) => [encP a, encP b]
  | .p (.nt a) => [encP a]
  | .p (.get a) => [encP a]
  | .p (.call f ps) => [.int f, .tup (encPs ps)]
  | .d (.set i p) => [.int i, encP p]
  | .d (.put c p) => [encP c, encP p]
  | .d (.say p) => [encP p]
  | .d (.ite p a b) => [encP p, .tup (encB a), .tup (encB b)]
  | .d (.whl p b) => [encP p, .tup (encB b)]
  | .d (.ret p) => [encP p]
  | .d (.dop p) => [encP p]
theorem encT_eq (t : Th) : encT t = .tup (.str (wdT t) :: restT t) := by
  cases t with
  | p p => cases p <;> rfl
  | d d => cases d <;> rfl
def tabI : List (Key × V) := [(Sum.inr "set", .int 1), (Sum.inr "put", .int 2), (Sum.inr "say", .int 1), (Sum.inr "if", .int 1), (Sum.inr "while", .int 1), (Sum.inr "return", .int 1), (Sum.inr "do", .int 1), (Sum.inr "num", .int 0), (Sum.inr "name", .int 0), (Sum.inr "not", .int 1)]
def notCall : Th → Prop
  | .p (.call _ _) => False
  | _ => True
theorem wd_call {t : Th} (h : notCall t) : decide (V.str (wdT t) = V.str "call") = false := by
  cases t with
  | p p => cases p with
    | bin op a b => cases op <;> rfl
    | call f ps => exact h.elim
    | _ => rfl
  | d d => cases d <;> rfl
theorem inner_many {t : Th} (h : notCall t) : (valV (mergeK [] tabI) (Sum.inr (wdT t))).getD (if decide (V.str (wdT t) = V.str "get") = true then .int 1 else .int 2) = .int (innerT t).length := by
  cases t with
  | p p => cases p with
    | bin op a b => cases op <;> rfl
    | call f ps => exact h.elim
    | _ => rfl
  | d d => cases d <;> rfl
theorem inner_cut {t : Th} (h : notCall t) : (if decide (V.str (wdT t) = V.str "set") = true then cutT (.str (wdT t) :: restT t) (some 2) (some 3) else cutT (.str (wdT t) :: restT t) (some 1) (some (1 + (innerT t).length))) = encPs (innerT t) := by
  cases t with
  | p p => cases p with
    | bin op a b => cases op <;> rfl
    | call f ps => exact h.elim
    | _ => rfl
  | d d => cases d <;> rfl
theorem innerT_len {t : Th} (h : notCall t) : (encPs (innerT t)).length ≤ 10 := by
  cases t with
  | p p => cases p with
    | call f ps => exact h.elim
    | _ => simp [innerT, innerP, encPs]
  | d d => cases d <;> simp [innerT, innerD, encPs]
def spInner (K : PySem.W.Frag) : Sp := fun vs H Q _ => ∃ v t, vs = [v] ∧ Rep K H v (encT t) ∧ ∀ H' l us, Ch K [] H H' → H l = none → H' l = some (.lst us) → Reps K H' us (encPs (innerT t)) → Q (.ref l) H'
theorem fn_inner (C : Cn w K mg base) : Fn P w K mg base CX0 2 "_law_inner" ["_law_thing"] (spInner K) := C.f_law_inner fun fd F => by
  refine F.ok (CX := CX0) sc_law_inner (fun vs H Q E h => ?_) (fun cdv A outer s H vs Q E hr h => ?_)
  · obtain ⟨v, t, rfl, _⟩ := h
    rfl
  · obtain ⟨v, t, rfl, rep, q⟩ := h
    have hu := hu_of (rmm (j := 1) hr)
    refine ⟨_, PSs.nox (pss_cons (ps_if (pt_cmpR op_eq (pe_ix ix_tup (pv 0) pe_int (fun _ _ => rfl)) pe_str (nomark _)) (pss_one (ps_ret (pe_callTy call_list_of (by rfl) (C.m_list) (by decide +kernel) (pa_cons (pe_ix ix_tup (pv 0) pe_int (fun _ _ => rfl)) pa_nil)))) pss_nil)
      (pss_cons (ps_set (i := 1) sc_law_inner.nd rfl (Or.inl rfl) (pe_disp (pps_cons pe_str pe_int (pps_cons pe_str pe_int (pps_cons pe_str pe_int (pps_cons pe_str pe_int (pps_cons pe_str pe_int (pps_cons pe_str pe_int (pps_cons pe_str pe_int (pps_cons pe_str pe_int (pps_cons pe_str pe_int (pps_cons pe_str pe_int pps_nil)))))))))) (by rfl) (by rfl) (fun z => by cases z) (by decide)))
      (pss_cons (ps_set (i := 1) sc_law_inner.nd rfl (Or.inl rfl) (pe_dget2 hu (pv 1) (pe_ix ix_tup (pv 0) pe_int (fun _ _ => rfl)) (pe_ifExp (pt_cmpR op_eq (pe_ix ix_tup (pv 0) pe_int (fun _ _ => rfl)) pe_str (nomark _)) pe_int pe_int) ⟨by rfl, by rfl, by rfl, by rfl⟩))
      (pss_one (ps_ret (pe_ifExp (pt_cmpR op_eq (pe_ix ix_tup (pv 0) pe_int (fun _ _ => rfl)) pe_str (nomark _)) (pe_callTy call_list_of (by rfl) (C.m_list) (by decide +kernel) (pa_cons (pe_slice sl_tupR (pv 0) (po_some pe_int) (po_some pe_int)) pa_nil)) (pe_callTy call_list_of (by rfl) (C.m_list) (by decide +kernel) (pa_cons (pe_slice sl_tupR (pv 0) (po_some pe_int) (po_some (pe_op op_add pe_int (pv 1)))) pa_nil)))))))), ?_⟩
    have rep0 := rep
    rw [encT_eq] at rep
    obtain ⟨a, vs, rfl, hS, rs⟩ := rep.tupI
    obtain ⟨v0, vs1, rfl, r0, rs1⟩ := rs.consI
    obtain rfl := r0.strI
    have h0 : atI (V.str (wdT t) :: vs1) 0 = some (V.str (wdT t)) := atI_nat (j := 0) rfl
    walk_at "go"
    refine iteB (fun h => ?_) (fun h => ?_)
    · obtain ⟨f, ps, rfl⟩ : ∃ f ps, t = .p (.call f ps) := by
        cases t with
        | p p => cases p with
          | call f ps => exact ⟨f, ps, rfl⟩
          | _ => rw [wd_call (by trivial)] at h; cases h
        | d d => rw [wd_call (by trivial)] at h; cases h
      obtain ⟨v1, vs2, rfl, _, rs2⟩ := rs1.consI
      obtain ⟨v2, vs3, rfl, r2, _⟩ := rs2.consI
      obtain ⟨b, us, rfl, hb, rus⟩ := r2.tupI
      have h2 : atI (V.str (wdT (.p (.call f ps))) :: v1 :: V.ref b :: vs3) 2 = some (V.ref b) := atI_nat (j := 2) rfl
      walk_at "g"
      refine fun l nl => ?_
      exact q _ _ us (Ch.new nl) nl upd_same (rus.kt (Ch.new (S := []) nl).kt)
    · have hn : notCall t := by
        cases t with
        | p p => cases p with
          | call f ps => cases h
          | _ => trivial
        | d d => trivial
      walk_at "g"
      refine fun p np => ?_
      walk_at "g"
      refine ⟨upd_same, tabI, rfl, by simp [tabI], ?_⟩
      have c1 : Ch K [] H (upd (upd H p (.dK [])) p (.dK (mergeK [] tabI))) := (Ch.new np).wrN np upd_same rfl
      have e1 : (upd (upd H p (.dK [])) p (.dK (mergeK [] tabI))) p = some (.dK (mergeK [] tabI)) := upd_same
      generalize upd (upd H p (.dK [])) p (.dK (mergeK [] tabI)) = H1 at c1 e1 ⊢
      have hS1 := c1.sqT hS
      have rep1 := rep.kt c1.kt
      have lN := innerT_len hn
      have hcut := inner_cut hn
      have hmany := inner_many hn
      have fin : ∀ {v : V} {H2 : Hp}, Ch K [] H1 H2 → Rep K H2 v (.tup (encPs (innerT t))) → ∃ p ys, [v] = [V.ref p] ∧ (SqL K H2 p ys ∨ SqT K H2 p ys) ∧ ∀ l, H2 l = none → Q (.ref l) (upd H2 l (.lst ys)) := by
        intro v H2 c2 r2
        obtain ⟨b, us, rfl, hb, rus⟩ := r2.tupI
        exact ⟨b, us, rfl, .inr hb, fun l nl => q _ _ us ((c1.trans c2).trans (Ch.new nl)) ((c1.trans c2).free nl (by simp)) upd_same (rus.kt (Ch.new (S := []) nl).kt)⟩
      have fin2 : ∀ (σ : L2.St), σ[0]? = some (some (.ref a)) → σ[1]? = some (some (.int (innerT t).length)) → tIf (tTest (tOp rEq (tOp (rIxT K) (tVar 0) (tC (V.int 0))) (tC (V.str (Str.ofString "set")))))
              (tCB (fun xs H Q => ∃ p ys, xs = [V.ref p] ∧ (SqL K H p ys ∨ SqT K H p ys) ∧ ∀ (l : Addr), H l = none → Q (V.ref l) (upd H l (HO.lst ys))) (tCons (tSl (rSlR K) (tVar 0) (tPart (tC (V.int 2))) (tPart (tC (V.int 3)))) tNil))
              (tCB (fun xs H Q => ∃ p ys, xs = [V.ref p] ∧ (SqL K H p ys ∨ SqT K H p ys) ∧ ∀ (l : Addr), H l = none → Q (V.ref l) (upd H l (HO.lst ys))) (tCons (tSl (rSlR K) (tVar 0) (tPart (tC (V.int 1))) (tPart (tOp (rI0 fun i j => V.int (i + j)) (tC (V.int 1)) (tVar 1)))) tNil)) σ H1 Q := by
        intro σ e0 e1
        have h0' := h0
        refine g_if (g_test (g_op (g_op (g_var e0 (g_c (g_ixT hS1 h0 (g_c (g_eq rfl ?_))))))))
        refine ⟨_, rfl, iteB (fun h => ?_) (fun h => ?_)⟩
        · rw [if_pos h] at hcut
          refine g_CB (g_cons (g_sl (g_var e0 (g_part (g_c ⟨_, rfl, g_part (g_c ⟨_, rfl, ⟨_, rep1, fun v H2 c2 r2 => ?_⟩⟩)⟩)))))
          rw [hcut] at r2
          exact g_nil (fin c2 r2)
        · rw [if_neg (by rw [h]; exact Bool.false_ne_true)] at hcut
          refine g_CB (g_cons (g_sl (g_var e0 (g_part (g_c ⟨_, rfl, g_part (g_op (g_c (g_var e1 (g_I0 ⟨_, rfl, ⟨_, rep1, fun v H2 c2 r2 => ?_⟩⟩))))⟩)))))
          rw [hcut] at r2
          exact g_nil (fin c2 r2)
      walk_at "g"
      refine g_dget2 ?_
      walk_at "g"
      refine ⟨.inl ⟨_, .inl e1⟩, ?_⟩
      walk_at "g"
      refine iteB (fun h1 => ?_) (fun h1 => ?_)
      · rw [if_pos h1] at hmany
        walk_at "g"
        refine ⟨_, DGet.k (k := Sum.inr (wdT t)) e1, ?_⟩
        rw [hmany]
        exact fin2 _ rfl rfl
      · rw [if_neg (by rw [h1]; exact Bool.false_ne_true)] at hmany
        walk_at "g"
        refine ⟨_, DGet.k (k := Sum.inr (wdT t)) e1, ?_⟩
        rw [hmany]
        exact fin2 _ rfl rfl
end
end K3
end

section
set_option maxRecDepth 100000
set_option maxHeartbeats 1000000
open Bq L2
/-- one step of a reading; what is left are side goals and places to think -/
local macro_rules | `(tactic| walk_at "g1") => `(tactic| first
  | with_reducible refine' g_seq ?_ | with_reducible refine' g_asg ?_ | with_reducible refine' g_drop ?_ | with_reducible refine' g_ret ?_ | with_reducible refine' g_ifS ?_ | with_reducible refine' g_asgG ?_
  | ((with_reducible refine' g_var ?hv ?_); (case hv => rfl))
  | with_reducible refine' g_c ?_ | with_reducible refine' g_op ?_ | with_reducible refine' g_un ?_ | with_reducible refine' g_I0 ?_ | with_reducible refine' g_U ?_
  | with_reducible refine' g_test ?_ | with_reducible refine' g_tB ?_ | with_reducible refine Exists.intro _ (And.intro rfl ?_) 
  | ((with_reducible refine' g_andP ?ha ?hb ?_); (case ha => intro R q; walk_at "g"; exact q); (case hb => intro R q; walk_at "g"; exact q))
  | ((with_reducible refine' g_orP ?ha ?hb ?_); (case ha => intro R q; walk_at "g"; exact q); (case hb => intro R q; walk_at "g"; exact q))
  | with_reducible refine' g_and ?_ | with_reducible refine' g_or ?_ | with_reducible refine' g_not ?_
  | with_reducible refine' g_andV ?_ | with_reducible refine' g_orV ?_ | with_reducible refine' g_notV ?_ | with_reducible refine' g_if ?_ | with_reducible refine' g_nil ?_ | with_reducible refine' g_cons ?_
  | with_reducible refine' g_tup ?_ | with_reducible refine' g_lst ?_ | with_reducible refine' g_CB ?_ | with_reducible refine' g_Fn ?_ | with_reducible refine' g_next ?_ | with_reducible refine' g_retN ?_
  | with_reducible refine' g_name ?_ | with_reducible refine' g_sub ?_
  | ((with_reducible refine' g_ixL ?hs ?he ?_); (case hs => walk_at "lk"); (case he => walk_at "at"))
  | ((with_reducible refine' g_ixT ?hs ?he ?_); (case hs => walk_at "lk"); (case he => walk_at "at"))
  | ((with_reducible refine' g_setL ?hs ?he ?_); (case hs => walk_at "hp"); (case he => rfl))
  | ((with_reducible refine' g_app ?hs ?hz ?_); (case hs => walk_at "hp"); (case hz => walk_at "sz"))
  | ((with_reducible refine' ⟨_, _, rfl, Or.inl ?hs, ?_⟩); (case hs => walk_at "lk"))
  | ((with_reducible refine' ⟨_, _, rfl, Or.inr ?hs, ?_⟩); (case hs => walk_at "lk"))
  | with_reducible refine' g_BM ?_ | with_reducible refine' g_BM0 ?_ | ((with_reducible refine' g_tyL ?hs ?_); (case hs => walk_at "lk"))
  | with_reducible refine' g_sl ?_ | with_reducible refine' g_noPart ?_ | with_reducible refine' g_part ?_
  | ((with_reducible refine' g_inT ?hs ?fx ?fs ?_); (case hs => walk_at "lk"); (case fx => rfl); (case fs => rfl))
  | with_reducible refine' g_pair ?_ | with_reducible refine' g_pair0 ?_ | with_reducible refine' g_disp ?_
  | with_reducible refine' g_for ?_ | with_reducible refine' g_tupC ?_ | with_reducible refine' g_lstC ?_ | ((with_reducible refine' g_lens ?_)) | with_reducible refine' g_dg ?_ | with_reducible refine' g_lc ?_ | with_reducible refine' g_rng1 ?_ | with_reducible refine' g_ilist ?_ | with_reducible refine' g_itup ?_
  | ((with_reducible refine' ⟨_, _, rfl, ?hd, ?_⟩); (case hd => walk_at "dg"))
  | ((with_reducible refine' g_eqNil ?hs ?hz ?_); (case hs => walk_at "lk"); (case hz => walk_at "lk"))
  | ((with_reducible refine' g_neNil ?hs ?hz ?_); (case hs => walk_at "lk"); (case hz => walk_at "lk"))
  | with_reducible refine Or.inl ⟨_, rfl, ?_⟩
  | with_reducible refine Or.inr ⟨_, rfl, ?_⟩
  | ((with_reducible refine' g_eq ?hs ?_); (case hs => rfl))
  | ((with_reducible refine' g_ne ?hs ?_); (case hs => rfl))
  | ((with_reducible refine' g_I ?hc ?_); (case hc => walk_at "ar")))
/-- arithmetic's side conditions -/
local macro_rules | `(tactic| walk_at "ar") => `(tactic| (first
  | (show (0 : Int) < _; first | omega | decide) | (show (0 : Int) < _ ∧ _; constructor <;> omega) | (show ¬ (_ : Int) = _; omega) | (show (_ : Int) ≠ _ ∧ _; constructor <;> omega)
  | (show (-(2 ^ 64) < _ ∧ _) ∨ _; (first | (left; constructor <;> omega) | (right; constructor <;> omega))) | (show (0 : Int) ≤ _ ∧ _ ∧ _; refine ⟨by omega, by omega, by decide⟩)))
/-- what stands at an index -/
local macro_rules | `(tactic| walk_at "at") => `(tactic| first | rfl | assumption)
/-- what stands at an address -/
local macro_rules | `(tactic| walk_at "hp") => `(tactic| first | assumption | exact upd_same | ((refine' Eq.trans (upd_ne ?hn) ?hm); (case hm => walk_at "hp"); (case hn => walk_at "ne")))
/-- two places are two -/
local macro_rules | `(tactic| walk_at "ne") => `(tactic| first
  | assumption | exact Ne.symm (by assumption)
  | ((refine' ne_of_none ?ha ?hb); (case hb => assumption); (case ha => walk_at "hp")) | ((refine' Ne.symm (ne_of_none ?ha ?hb)); (case hb => assumption); (case ha => walk_at "hp")))
/-- what a dict tells -/
local macro_rules | `(tactic| walk_at "dg") => `(tactic| first | assumption)
/-- a length -/
local macro_rules | `(tactic| walk_at "sz") => `(tactic| first | (show _ ≤ sizeLine; decide) | (show _ < sizeLine; decide) | assumption | exact szlt (by simp) | exact szle (by simp))
/-- a list or tuple that stands -/
local macro_rules | `(tactic| walk_at "lk") => `(tactic| first | assumption | exact SqL.of (by assumption) | exact SqT.of (by assumption) | exact SqL.of upd_same | exact SqT.of upd_same | (refine' FzL.sq ?hm; (case hm => walk_at "fz")))
/-- a list that nobody writes -/
local macro_rules | `(tactic| walk_at "fz") => `(tactic| first | assumption | ((refine' FzL.uw ?hm ?hx); (case hx => walk_at "hp"); (case hm => walk_at "fz")) | ((refine' FzL.nw ?hm ?hx); (case hx => assumption); (case hm => walk_at "fz")))
/-- as far as it goes by itself -/
local macro_rules | `(tactic| walk_at "g") => `(tactic| repeat walk_at "g1")
/-- the body's reading, its places in short -/
local macro_rules | `(tactic| walk_at "go") => `(tactic| ((try dsimp only [cxOf, Cx.nox, Cx.wish]); walk_at "g"))
namespace K3
open PySem PySem.Spec PyProof.Rows L2 Bq
section
variable {P : Program} {w : World} {K : PySem.W.Frag} {mg : Str → Option Value} {base : Heap}
/-- further steps: dicts written, tuples taken apart -/
local macro_rules | `(tactic| walk_at "g1") => `(tactic| first
  | with_reducible refine' g_sdput ?_
  | ((with_reducible refine' g_gtup ?hs ?hl ?_); (case hs => walk_at "lk"); (case hl => rfl))
  | with_reducible refine' g_gcons ?_
  | with_reducible refine' g_gnil ?_
  | with_reducible refine' And.intro (Eq.refl V.non) ?_
  | with_reducible refine' g_isN ?_
  | ((with_reducible refine' g_chainR ?ha ?hb ?hc ?_); (case ha => intro R q; walk_at "g"; exact q); (case hb => intro R q; walk_at "g"; exact q); (case hc => intro R q; walk_at "g"; exact q))
  | with_reducible refine' g_notN ?_)
/-- what the law's dict tells -/
local macro_rules | `(tactic| walk_at "dg") => `(tactic| first
  | assumption
  | exact LH.gfuns (by assumption)
  | exact LH.gsaid (by assumption)
  | exact LH.gcells (by assumption)
  | exact LH.gfuel (by assumption)
  | exact LH.gend (by assumption)
  | exact LH.gcalls (by assumption)
  | exact LH.gnames (by assumption)
  | exact LH.gwaits (by assumption)
  | exact LH.gworth (by assumption)
  | exact LH.glook (by assumption))
/-- a test that fails, that holds, by itself -/
local macro_rules | `(tactic| walk_at "no") => `(tactic| ((refine tkF rfl ?_); walk_at "g"))
local macro_rules | `(tactic| walk_at "yes") => `(tactic| ((refine tkT rfl ?_); walk_at "g"))
local macro_rules | `(tactic| walk_at "g1") => `(tactic| first
  | with_reducible refine' g_catS ?_
  | with_reducible refine' g_mulS ?_
  | with_reducible refine' g_rev ?_)
/-! ### alike -/
inductive Lk (K : PySem.W.Frag) (H : Hp) : Nat → V → V → Prop where
  | int {n} (i : Int) : Lk K H n (.int i) (.int i)
  | str {n} (i : Str) : Lk K H n (.str i) (.str i)
  | lst {n a b xs ys} (h : H a = some (.lst xs)) (g : H b = some (.lst ys)) (l : xs.length = ys.length) (z : ys.length ≤ 4100000) (r : ∀ (i : Nat) x y, xs[i]? = some x → ys[i]? = some y → Lk K H n x y) : Lk K H (n + 1) (.ref a) (.ref b)
  | tup {n a b xs ys} (h : SqT K H a xs) (g : SqT K H b ys) (l : xs.length = ys.length) (z : ys.length ≤ 4100000) (r : ∀ (i : Nat) x y, xs[i]? = some x → ys[i]? = some y → Lk K H n x y) : Lk K H (n + 1) (.ref a) (.ref b)
theorem ty_tup {H : Hp} {a : Addr} {xs : List V} (h : SqT K H a xs) : TyX K H (.ref a) (.type "tuple") := by
  rcases h with (h | ⟨o, h⟩) | ⟨o, its, n, h, c, _⟩
  · exact .base (.tup h)
  · exact .fTuple h
  · exact .kTuple h c
def spLike (K : PySem.W.Frag) (n : Nat) : Sp := fun vs H Q _ => ∃ v u, vs = [v, u] ∧ Lk K H n v u ∧ Q (.bl true) H
theorem kl {b : String} {r : Bool} (h : kitB "list" b = some r) : kitB "list" b = some r := h
theorem like_step (C : Cn w K mg base) (k : Nat) (hk : 1 ≤ k) (n : Nat) {sp : Sp} (F_law_like : Fn P w K mg base CX0 k "_law_like" ["_law_found", "_law_due"] sp)
    (hsp : ∀ m, n = m + 1 → ∀ vs H Q E, spLike K m vs H Q E → sp vs H Q E) : Fn P w K mg base CX0 (k + 1) "_law_like" ["_law_found", "_law_due"] (spLike K n) := C.f_law_like fun fd F => by
  refine F.ok (CX := CX0) sc_law_like (fun vs H Q E h => ?_) (fun cdv A outer s H vs Q E hr h => ?_)
  · obtain ⟨v, u, rfl, _⟩ := h
    rfl
  · obtain ⟨v, u, rfl, hl, q⟩ := h
    have hu := hu_of (hr.mono hk)
    refine ⟨_, PSs.nox (pss_cons (ps_if (pt_val (pe_callB call_isi (by rfl) (C.m_isinstance) (by decide +kernel) (pa_cons (pv 1) (pa_cons (pe_bty "bool" (by rfl) (C.m_bool) (by decide +kernel)) pa_nil)))) (pss_one (ps_ret (pe_mid (pe_and (pe_callB call_isi (by rfl) (C.m_isinstance) (by decide +kernel) (pa_cons (pv 0) (pa_cons (pe_bty "bool" (by rfl) (C.m_bool) (by decide +kernel)) pa_nil))) (pe_one (pe_cmpR op_eq (pv 0) (pv 1) (nomark _))))))) pss_nil)
      (pss_cons (ps_if (pt_val (pe_callB call_isi (by rfl) (C.m_isinstance) (by decide +kernel) (pa_cons (pv 1) (pa_cons (pe_bty "str" (by rfl) (C.m_str) (by decide +kernel)) pa_nil)))) (pss_one (ps_ret (pe_mid (pe_and (pe_callB call_isi (by rfl) (C.m_isinstance) (by decide +kernel) (pa_cons (pv 0) (pa_cons (pe_bty "str" (by rfl) (C.m_str) (by decide +kernel)) pa_nil))) (pe_one (pe_cmpR op_eq (pv 0) (pv 1) (nomark _))))))) pss_nil)
      (pss_cons (ps_if (pt_val (pe_callB call_isi (by rfl) (C.m_isinstance) (by decide +kernel) (pa_cons (pv 1) (pa_cons (pe_bty "int" (by rfl) (C.m_int) (by decide +kernel)) pa_nil)))) (pss_one (ps_ret (pe_mid (pe_and (pe_callB call_isi (by rfl) (C.m_isinstance) (by decide +kernel) (pa_cons (pv 0) (pa_cons (pe_bty "int" (by rfl) (C.m_int) (by decide +kernel)) pa_nil))) (pe_and (pe_not (pe_callB call_isi (by rfl) (C.m_isinstance) (by decide +kernel) (pa_cons (pv 0) (pa_cons (pe_bty "bool" (by rfl) (C.m_bool) (by decide +kernel)) pa_nil)))) (pe_one (pe_cmpR op_eq (pv 0) (pv 1) (nomark _)))))))) pss_nil)
      (pss_cons (ps_if (pt_cmpR op_isN (pv 1) pe_non (nomark _)) (pss_one (ps_ret (pe_cmpR op_isN (pv 0) pe_non (nomark _)))) pss_nil)
      (pss_cons (ps_if (pt_mid (PW.pt (pw_or (pt_cmpR op_ne (pe_callB call_isi (by rfl) (C.m_isinstance) (by decide +kernel) (pa_cons (pv 1) (pa_cons (pe_bty "tuple" (by rfl) (C.m_tuple) (by decide +kernel)) pa_nil))) (pe_callB call_isi (by rfl) (C.m_isinstance) (by decide +kernel) (pa_cons (pv 0) (pa_cons (pe_bty "tuple" (by rfl) (C.m_tuple) (by decide +kernel)) pa_nil))) (nomark _)) (pw_or1 (pt_cmpR op_ne (pe_callB call_isi (by rfl) (C.m_isinstance) (by decide +kernel) (pa_cons (pv 1) (pa_cons (pe_bty "list" (by rfl) (C.m_list) (by decide +kernel)) pa_nil))) (pe_callB call_isi (by rfl) (C.m_isinstance) (by decide +kernel) (pa_cons (pv 0) (pa_cons (pe_bty "list" (by rfl) (C.m_list) (by decide +kernel)) pa_nil))) (nomark _)))))) (pss_one (ps_ret pe_bl)) pss_nil)
      (pss_cons (ps_if (pt_cmpR op_ne (pe_callB call_len_seq (by rfl) (C.m_len) PySem.boot_len (pa_cons (pv 0) pa_nil)) (pe_callB call_len_seq (by rfl) (C.m_len) PySem.boot_len (pa_cons (pv 1) pa_nil)) (nomark _)) (pss_one (ps_ret pe_bl)) pss_nil)
      (pss_cons (ps_for PassesOwn.never rfl (pi_range1 (by rfl) (C.m_range) (pa_cons (pe_callB call_len_seq (by rfl) (C.m_len) PySem.boot_len (pa_cons (pv 1) pa_nil)) pa_nil)) (pg_name (i := 2) sc_law_like.nd rfl (Or.inl rfl)) (pss_one (ps_if (pt_not (pt_val (pe_fn F_law_like (rmm hr) (by rfl) pass0 (pa_cons (pe_ix Bq.ix_seq (pv 0) (pv 2) (fun _ _ => rfl)) (pa_cons (pe_ix Bq.ix_seq (pv 1) (pv 2) (fun _ _ => rfl)) pa_nil))))) (pss_one (ps_ret pe_bl)) pss_nil)))
      (pss_one (ps_ret pe_bl))))))))), ?_⟩
    cases hl with
    | int i =>
      have t := Rep.ty (K := K) (H := H) (.int i)
      walk_at "go"
      refine g_isi t (kit_bool (.int i)) ?_
      walk_at "g"
      walk_at "no"
      refine g_isi t (kit_str (.int i)) ?_
      walk_at "g"
      walk_at "no"
      refine g_isi t (kit_int (.int i)) ?_
      walk_at "g"
      walk_at "yes"
      refine g_midE (fun v' H' => v' = .bl true ∧ H' = H) ?_ ?_
      · walk_at "g"
        refine g_isi t (kit_int (.int i)) ?_
        walk_at "g"
        walk_at "yes"
        refine g_isi t (kit_bool (.int i)) ?_
        walk_at "g"
        walk_at "yes"
        simp
      · rintro _ H1 ⟨rfl, e1⟩
        rw [e1]
        exact q
    | str i =>
      have t := Rep.ty (K := K) (H := H) (.str i)
      walk_at "go"
      refine g_isi t (kit_bool (.str i)) ?_
      walk_at "g"
      walk_at "no"
      refine g_isi t (kit_str (.str i)) ?_
      walk_at "g"
      walk_at "yes"
      refine g_midE (fun v' H' => v' = .bl true ∧ H' = H) ?_ ?_
      · walk_at "g"
        refine g_isi t (kit_str (.str i)) ?_
        walk_at "g"
        walk_at "yes"
        simp
      · rintro _ H1 ⟨rfl, e1⟩
        rw [e1]
        exact q
    | @lst n a b xs ys h g l z r =>
      have tf : TyX K H (.ref a) (.type "list") := TyX.base (.lst h)
      have tg : TyX K H (.ref b) (.type "list") := TyX.base (.lst g)
      have hf : SqL K H a xs := SqL.of h
      have hg : SqL K H b ys := SqL.of g
      walk_at "go"
      refine g_isi tg (show kitB "list" "bool" = some false by decide +kernel) ?_
      walk_at "g"
      walk_at "no"
      refine g_isi tg (show kitB "list" "str" = some false by decide +kernel) ?_
      walk_at "g"
      walk_at "no"
      refine g_isi tg (show kitB "list" "int" = some false by decide +kernel) ?_
      walk_at "g"
      walk_at "no"
      walk_at "no"
      refine g_mid (fun v' H' => v' = false ∧ H' = H) ?_ ?_
      · walk_at "g"
        refine g_isi tg (show kitB "list" "tuple" = some false by decide +kernel) ?_
        walk_at "g"
        refine g_isi tf (show kitB "list" "tuple" = some false by decide +kernel) ?_
        walk_at "g"
        walk_at "no"
        refine g_isi tg (show kitB "list" "list" = some true by decide +kernel) ?_
        walk_at "g"
        refine g_isi tf (show kitB "list" "list" = some true by decide +kernel) ?_
        walk_at "g"
        exact ⟨rfl, rfl⟩
      · rintro _ H1 ⟨rfl, e1⟩
        rw [e1]
        walk_at "no"
        rw [l]
        refine tkF (by simp) ?_
        walk_at "g"
        refine ⟨by omega, by omega, ?_⟩
        refine for_rng (fun i σ H' => ∃ x2, σ = [some (.ref a), some (.ref b), x2] ∧ H' = H) ⟨_, rfl, rfl⟩ ?_ ?_
        · rintro i σ H2 hi ⟨x2, rfl, rfl⟩
          have hi2 : i < ys.length := hi
          have hi1 : i < xs.length := by omega
          have e1 := List.getElem?_eq_getElem hi1
          have e2 := List.getElem?_eq_getElem hi2
          walk_at "g"
          refine .inl (g_ixL hf (atI_nat e1) ?_)
          walk_at "g"
          refine .inl (g_ixL hg (atI_nat e2) ?_)
          walk_at "g"
          refine hsp n rfl _ _ _ _ ⟨_, _, rfl, r i _ _ e1 e2, ?_⟩
          walk_at "g"
          walk_at "no"
          rfl
        · rintro σ H2 ⟨x2, rfl, rfl⟩
          walk_at "g"
          exact q
    | @tup n a b xs ys h g l z r =>
      have tf : TyX K H (.ref a) (.type "tuple") := ty_tup h
      have tg : TyX K H (.ref b) (.type "tuple") := ty_tup g
      have hf : SqT K H a xs := h
      have hg : SqT K H b ys := g
      walk_at "go"
      refine g_isi tg (show kitB "tuple" "bool" = some false by decide +kernel) ?_
      walk_at "g"
      walk_at "no"
      refine g_isi tg (show kitB "tuple" "str" = some false by decide +kernel) ?_
      walk_at "g"
      walk_at "no"
      refine g_isi tg (show kitB "tuple" "int" = some false by decide +kernel) ?_
      walk_at "g"
      walk_at "no"
      walk_at "no"
      refine g_mid (fun v' H' => v' = false ∧ H' = H) ?_ ?_
      · walk_at "g"
        refine g_isi tg (show kitB "tuple" "tuple" = some true by decide +kernel) ?_
        walk_at "g"
        refine g_isi tf (show kitB "tuple" "tuple" = some true by decide +kernel) ?_
        walk_at "g"
        walk_at "no"
        refine g_isi tg (show kitB "tuple" "list" = some false by decide +kernel) ?_
        walk_at "g"
        refine g_isi tf (show kitB "tuple" "list" = some false by decide +kernel) ?_
        walk_at "g"
        exact ⟨rfl, rfl⟩
      · rintro _ H1 ⟨rfl, e1⟩
        rw [e1]
        walk_at "no"
        rw [l]
        refine tkF (by simp) ?_
        walk_at "g"
        refine ⟨by omega, by omega, ?_⟩
        refine for_rng (fun i σ H' => ∃ x2, σ = [some (.ref a), some (.ref b), x2] ∧ H' = H) ⟨_, rfl, rfl⟩ ?_ ?_
        · rintro i σ H2 hi ⟨x2, rfl, rfl⟩
          have hi2 : i < ys.length := hi
          have hi1 : i < xs.length := by omega
          have e1 := List.getElem?_eq_getElem hi1
          have e2 := List.getElem?_eq_getElem hi2
          walk_at "g"
          refine .inr (g_ixT hf (atI_nat e1) ?_)
          walk_at "g"
          refine .inr (g_ixT hg (atI_nat e2) ?_)
          walk_at "g"
          refine hsp n rfl _ _ _ _ ⟨_, _, rfl, r i _ _ e1 e2, ?_⟩
          walk_at "g"
          walk_at "no"
          rfl
        · rintro σ H2 ⟨x2, rfl, rfl⟩
          walk_at "g"
          exact q
theorem fn_like (C : Cn w K mg base) : ∀ n : Nat, Fn P w K mg base CX0 (n + 2) "_law_like" ["_law_found", "_law_due"] (spLike K n)
  | 0 => like_step C 1 (by decide) 0 (sp := fun _ _ _ _ => False) (C.f_law_like fun fd F => ⟨fun _ _ _ _ h => h.elim, fun _ _ _ _ _ _ _ _ _ _ _ _ _ h => h.elim⟩) fun m h => by omega
  | n + 1 => like_step C (n + 2) (by omega) (n + 1) (fn_like C n) fun m e _ _ _ _ h => by
    have : m = n := by omega
    rw [← this]
    exact h
end
end K3
end

section
set_option maxRecDepth 100000
set_option maxHeartbeats 1000000
open Bq L2
/-- one step of a reading; what is left are side goals and places to think -/
local macro_rules | `(tactic| walk_at "g1") => `(tactic| first
  | with_reducible refine' g_seq ?_ | with_reducible refine' g_asg ?_ | with_reducible refine' g_drop ?_ | with_reducible refine' g_ret ?_ | with_reducible refine' g_ifS ?_ | with_reducible refine' g_asgG ?_
  | ((with_reducible refine' g_var ?hv ?_); (case hv => rfl))
  | with_reducible refine' g_c ?_ | with_reducible refine' g_op ?_ | with_reducible refine' g_un ?_ | with_reducible refine' g_I0 ?_ | with_reducible refine' g_U ?_
  | with_reducible refine' g_test ?_ | with_reducible refine' g_tB ?_ | with_reducible refine Exists.intro _ (And.intro rfl ?_) 
  | ((with_reducible refine' g_andP ?ha ?hb ?_); (case ha => intro R q; walk_at "g"; exact q); (case hb => intro R q; walk_at "g"; exact q))
  | ((with_reducible refine' g_orP ?ha ?hb ?_); (case ha => intro R q; walk_at "g"; exact q); (case hb => intro R q; walk_at "g"; exact q))
  | with_reducible refine' g_and ?_ | with_reducible refine' g_or ?_ | with_reducible refine' g_not ?_
  | with_reducible refine' g_andV ?_ | with_reducible refine' g_orV ?_ | with_reducible refine' g_notV ?_ | with_reducible refine' g_if ?_ | with_reducible refine' g_nil ?_ | with_reducible refine' g_cons ?_
  | with_reducible refine' g_tup ?_ | with_reducible refine' g_lst ?_ | with_reducible refine' g_CB ?_ | with_reducible refine' g_Fn ?_ | with_reducible refine' g_next ?_ | with_reducible refine' g_retN ?_
  | with_reducible refine' g_name ?_ | with_reducible refine' g_sub ?_
  | ((with_reducible refine' g_ixL ?hs ?he ?_); (case hs => walk_at "lk"); (case he => walk_at "at"))
  | ((with_reducible refine' g_ixT ?hs ?he ?_); (case hs => walk_at "lk"); (case he => walk_at "at"))
  | ((with_reducible refine' g_setL ?hs ?he ?_); (case hs => walk_at "hp"); (case he => rfl))
  | ((with_reducible refine' g_app ?hs ?hz ?_); (case hs => walk_at "hp"); (case hz => walk_at "sz"))
  | ((with_reducible refine' ⟨_, _, rfl, Or.inl ?hs, ?_⟩); (case hs => walk_at "lk"))
  | ((with_reducible refine' ⟨_, _, rfl, Or.inr ?hs, ?_⟩); (case hs => walk_at "lk"))
  | with_reducible refine' g_BM ?_ | with_reducible refine' g_BM0 ?_ | ((with_reducible refine' g_tyL ?hs ?_); (case hs => walk_at "lk"))
  | with_reducible refine' g_sl ?_ | with_reducible refine' g_noPart ?_ | with_reducible refine' g_part ?_
  | ((with_reducible refine' g_inT ?hs ?fx ?fs ?_); (case hs => walk_at "lk"); (case fx => rfl); (case fs => rfl))
  | with_reducible refine' g_pair ?_ | with_reducible refine' g_pair0 ?_ | with_reducible refine' g_disp ?_
  | with_reducible refine' g_for ?_ | with_reducible refine' g_tupC ?_ | with_reducible refine' g_lstC ?_ | ((with_reducible refine' g_lens ?_)) | with_reducible refine' g_dg ?_ | with_reducible refine' g_lc ?_ | with_reducible refine' g_rng1 ?_ | with_reducible refine' g_ilist ?_ | with_reducible refine' g_itup ?_
  | ((with_reducible refine' ⟨_, _, rfl, ?hd, ?_⟩); (case hd => walk_at "dg"))
  | ((with_reducible refine' g_eqNil ?hs ?hz ?_); (case hs => walk_at "lk"); (case hz => walk_at "lk"))
  | ((with_reducible refine' g_neNil ?hs ?hz ?_); (case hs => walk_at "lk"); (case hz => walk_at "lk"))
  | with_reducible refine Or.inl ⟨_, rfl, ?_⟩
  | with_reducible refine Or.inr ⟨_, rfl, ?_⟩
  | ((with_reducible refine' g_eq ?hs ?_); (case hs => rfl))
  | ((with_reducible refine' g_ne ?hs ?_); (case hs => rfl))
  | ((with_reducible refine' g_I ?hc ?_); (case hc => walk_at "ar")))
/-- arithmetic's side conditions -/
local macro_rules | `(tactic| walk_at "ar") => `(tactic| (first
  | (show (0 : Int) < _; first | omega | decide) | (show (0 : Int) < _ ∧ _; constructor <;> omega) | (show ¬ (_ : Int) = _; omega) | (show (_ : Int) ≠ _ ∧ _; constructor <;> omega)
  | (show (-(2 ^ 64) < _ ∧ _) ∨ _; (first | (left; constructor <;> omega) | (right; constructor <;> omega))) | (show (0 : Int) ≤ _ ∧ _ ∧ _; refine ⟨by omega, by omega, by decide⟩)))
/-- what stands at an index -/
local macro_rules | `(tactic| walk_at "at") => `(tactic| first | rfl | assumption)
/-- what stands at an address -/
local macro_rules | `(tactic| walk_at "hp") => `(tactic| first | assumption | exact upd_same | ((refine' Eq.trans (upd_ne ?hn) ?hm); (case hm => walk_at "hp"); (case hn => walk_at "ne")))
/-- two places are two -/
local macro_rules | `(tactic| walk_at "ne") => `(tactic| first
  | assumption | exact Ne.symm (by assumption)
  | ((refine' ne_of_none ?ha ?hb); (case hb => assumption); (case ha => walk_at "hp")) | ((refine' Ne.symm (ne_of_none ?ha ?hb)); (case hb => assumption); (case ha => walk_at "hp")))
/-- what a dict tells -/
local macro_rules | `(tactic| walk_at "dg") => `(tactic| first | assumption)
/-- a length -/
local macro_rules | `(tactic| walk_at "sz") => `(tactic| first | (show _ ≤ sizeLine; decide) | (show _ < sizeLine; decide) | assumption | exact szlt (by simp) | exact szle (by simp))
/-- a list or tuple that stands -/
local macro_rules | `(tactic| walk_at "lk") => `(tactic| first | assumption | exact SqL.of (by assumption) | exact SqT.of (by assumption) | exact SqL.of upd_same | exact SqT.of upd_same | (refine' FzL.sq ?hm; (case hm => walk_at "fz")))
/-- a list that nobody writes -/
local macro_rules | `(tactic| walk_at "fz") => `(tactic| first | assumption | ((refine' FzL.uw ?hm ?hx); (case hx => walk_at "hp"); (case hm => walk_at "fz")) | ((refine' FzL.nw ?hm ?hx); (case hx => assumption); (case hm => walk_at "fz")))
/-- as far as it goes by itself -/
local macro_rules | `(tactic| walk_at "g") => `(tactic| repeat walk_at "g1")
/-- the body's reading, its places in short -/
local macro_rules | `(tactic| walk_at "go") => `(tactic| ((try dsimp only [cxOf, Cx.nox, Cx.wish]); walk_at "g"))
namespace K3
open PySem PySem.Spec PyProof.Rows L2 Bq
section
variable {P : Program} {w : World} {K : PySem.W.Frag} {mg : Str → Option Value} {base : Heap}
theorem thing1 {H : Hp} {v : V} {t : Th} (r : Rep K H v (encT t)) : ∃ a us, v = .ref a ∧ SqT K H a (.str (wdT t) :: us) ∧ Reps K H us (restT t) := by
  rw [encT_eq] at r
  obtain ⟨a, vs, rfl, hS, rs⟩ := r.tupI
  obtain ⟨v0, us, rfl, r0, rs2⟩ := rs.consI
  obtain rfl := r0.strI
  exact ⟨a, us, rfl, hS, rs2⟩
theorem encPs_len : ∀ ps : List Pt, (encPs ps).length = ps.length
  | [] => rfl
  | p :: r => congrArg (· + 1) (encPs_len r)
def iv (l : List Int) : List V := l.map V.int
theorem iv_len (l : List Int) : (iv l).length = l.length := List.length_map ..
section
variable {H H' : Hp}
theorem g_sdput {td ty tv : TE} {D : Ends} {σ : L2.St} (h : tv σ H fun v H1 => td σ H1 fun x H2 => ty σ H2 fun y H3 => ∃ a H4, x = .ref a ∧ DPut H3 a y v H4 ∧ D.nx σ H4) : sDPut td ty tv D σ H := h
theorem g_gtup {n : Nat} {t : TGs} {a : Addr} {xs : List V} {σ : L2.St} {Q : L2.St → Hp → Prop} (h : SqT K H a xs) (hl : xs.length = n) (q : t xs σ H Q) : gTup K n t (.ref a) σ H Q := ⟨a, xs, rfl, h, hl, q⟩
theorem g_gcons {t : TG} {u : TGs} {v : V} {r : List V} {σ : L2.St} {Q : L2.St → Hp → Prop} (q : t v σ H fun σ' H' => u r σ' H' Q) : gCons t u (v :: r) σ H Q := ⟨v, r, rfl, q⟩
theorem g_gnil {σ : L2.St} {Q : L2.St → Hp → Prop} (q : Q σ H) : gNil [] σ H Q := ⟨rfl, q⟩
theorem g_notN {v : V} {Q : VK} (q : Q (.bl (!decide (v = .non))) H) : (fun (x y : V) (H : Hp) (Q : VK) => y = .non ∧ Q (.bl (!decide (x = .non))) H) v .non H Q := ⟨rfl, q⟩
end
/-- i <= j < k of ints that are known -/
theorem g_chainR {ta tb tc : TE} {i j k : Int} {σ : L2.St} {H : Hp} {Q : VK} (h1 : ∀ R : VK, R (.int i) H → ta σ H R) (h2 : ∀ R : VK, R (.int j) H → tb σ H R) (h3 : ∀ R : VK, R (.int k) H → tc σ H R)
    (q : Q (.bl (decide (i ≤ j) && decide (j < k))) H) : tChain (rI0 fun i j => V.bl (decide (i ≤ j))) (rI0 fun i j => V.bl (decide (i < j))) ta tb tc σ H Q := by
  refine h1 _ (h2 _ (g_I0 ⟨_, rfl, ?_⟩))
  cases e : decide (i ≤ j) with
  | false =>
    rw [if_neg Bool.false_ne_true]
    rw [e] at q
    exact q
  | true =>
    rw [if_pos rfl]
    rw [e] at q
    exact h3 _ (g_I0 q)
theorem setL_nat {H : Hp} {p : Addr} {xs : List V} {j : Nat} {v : V} {R : Hp → Prop} (h : H p = some (.lst xs)) (hj : j < xs.length) (q : R (upd H p (.lst (xs.set j v)))) : rSetL (.ref p) (.int (j : Nat)) v H R :=
  ⟨p, xs, _, j, rfl, rfl, h, Evl.ixN_nat hj, q⟩
end
end K3
end

section
set_option maxRecDepth 100000
set_option maxHeartbeats 1000000
open Bq L2
/-- one step of a reading; what is left are side goals and places to think -/
local macro_rules | `(tactic| walk_at "g1") => `(tactic| first
  | with_reducible refine' g_seq ?_ | with_reducible refine' g_asg ?_ | with_reducible refine' g_drop ?_ | with_reducible refine' g_ret ?_ | with_reducible refine' g_ifS ?_ | with_reducible refine' g_asgG ?_
  | ((with_reducible refine' g_var ?hv ?_); (case hv => rfl))
  | with_reducible refine' g_c ?_ | with_reducible refine' g_op ?_ | with_reducible refine' g_un ?_ | with_reducible refine' g_I0 ?_ | with_reducible refine' g_U ?_
  | with_reducible refine' g_test ?_ | with_reducible refine' g_tB ?_ | with_reducible refine Exists.intro _ (And.intro rfl ?_) 
  | ((with_reducible refine' g_andP ?ha ?hb ?_); (case ha => intro R q; walk_at "g"; exact q); (case hb => intro R q; walk_at "g"; exact q))
  | ((with_reducible refine' g_orP ?ha ?hb ?_); (case ha => intro R q; walk_at "g"; exact q); (case hb => intro R q; walk_at "g"; exact q))
  | with_reducible refine' g_and ?_ | with_reducible refine' g_or ?_ | with_reducible refine' g_not ?_
  | with_reducible refine' g_andV ?_ | with_reducible refine' g_orV ?_ | with_reducible refine' g_notV ?_ | with_reducible refine' g_if ?_ | with_reducible refine' g_nil ?_ | with_reducible refine' g_cons ?_
  | with_reducible refine' g_tup ?_ | with_reducible refine' g_lst ?_ | with_reducible refine' g_CB ?_ | with_reducible refine' g_Fn ?_ | with_reducible refine' g_next ?_ | with_reducible refine' g_retN ?_
  | with_reducible refine' g_name ?_ | with_reducible refine' g_sub ?_
  | ((with_reducible refine' g_ixL ?hs ?he ?_); (case hs => walk_at "lk"); (case he => walk_at "at"))
  | ((with_reducible refine' g_ixT ?hs ?he ?_); (case hs => walk_at "lk"); (case he => walk_at "at"))
  | ((with_reducible refine' g_setL ?hs ?he ?_); (case hs => walk_at "hp"); (case he => rfl))
  | ((with_reducible refine' g_app ?hs ?hz ?_); (case hs => walk_at "hp"); (case hz => walk_at "sz"))
  | ((with_reducible refine' ⟨_, _, rfl, Or.inl ?hs, ?_⟩); (case hs => walk_at "lk"))
  | ((with_reducible refine' ⟨_, _, rfl, Or.inr ?hs, ?_⟩); (case hs => walk_at "lk"))
  | with_reducible refine' g_BM ?_ | with_reducible refine' g_BM0 ?_ | ((with_reducible refine' g_tyL ?hs ?_); (case hs => walk_at "lk"))
  | with_reducible refine' g_sl ?_ | with_reducible refine' g_noPart ?_ | with_reducible refine' g_part ?_
  | ((with_reducible refine' g_inT ?hs ?fx ?fs ?_); (case hs => walk_at "lk"); (case fx => rfl); (case fs => rfl))
  | with_reducible refine' g_pair ?_ | with_reducible refine' g_pair0 ?_ | with_reducible refine' g_disp ?_
  | with_reducible refine' g_for ?_ | with_reducible refine' g_tupC ?_ | with_reducible refine' g_lstC ?_ | ((with_reducible refine' g_lens ?_)) | with_reducible refine' g_dg ?_ | with_reducible refine' g_lc ?_ | with_reducible refine' g_rng1 ?_ | with_reducible refine' g_ilist ?_ | with_reducible refine' g_itup ?_
  | ((with_reducible refine' ⟨_, _, rfl, ?hd, ?_⟩); (case hd => walk_at "dg"))
  | ((with_reducible refine' g_eqNil ?hs ?hz ?_); (case hs => walk_at "lk"); (case hz => walk_at "lk"))
  | ((with_reducible refine' g_neNil ?hs ?hz ?_); (case hs => walk_at "lk"); (case hz => walk_at "lk"))
  | with_reducible refine Or.inl ⟨_, rfl, ?_⟩
  | with_reducible refine Or.inr ⟨_, rfl, ?_⟩
  | ((with_reducible refine' g_eq ?hs ?_); (case hs => rfl))
  | ((with_reducible refine' g_ne ?hs ?_); (case hs => rfl))
  | ((with_reducible refine' g_I ?hc ?_); (case hc => walk_at "ar")))
/-- arithmetic's side conditions -/
local macro_rules | `(tactic| walk_at "ar") => `(tactic| (first
  | (show (0 : Int) < _; first | omega | decide) | (show (0 : Int) < _ ∧ _; constructor <;> omega) | (show ¬ (_ : Int) = _; omega) | (show (_ : Int) ≠ _ ∧ _; constructor <;> omega)
  | (show (-(2 ^ 64) < _ ∧ _) ∨ _; (first | (left; constructor <;> omega) | (right; constructor <;> omega))) | (show (0 : Int) ≤ _ ∧ _ ∧ _; refine ⟨by omega, by omega, by decide⟩)))
/-- what stands at an index -/
local macro_rules | `(tactic| walk_at "at") => `(tactic| first | rfl | assumption)
/-- what stands at an address -/
local macro_rules | `(tactic| walk_at "hp") => `(tactic| first | assumption | exact upd_same | ((refine' Eq.trans (upd_ne ?hn) ?hm); (case hm => walk_at "hp"); (case hn => walk_at "ne")))
/-- two places are two -/
local macro_rules | `(tactic| walk_at "ne") => `(tactic| first
  | assumption | exact Ne.symm (by assumption)
  | ((refine' ne_of_none ?ha ?hb); (case hb => assumption); (case ha => walk_at "hp")) | ((refine' Ne.symm (ne_of_none ?ha ?hb)); (case hb => assumption); (case ha => walk_at "hp")))
/-- what a dict tells -/
local macro_rules | `(tactic| walk_at "dg") => `(tactic| first | assumption)
/-- a length -/
local macro_rules | `(tactic| walk_at "sz") => `(tactic| first | (show _ ≤ sizeLine; decide) | (show _ < sizeLine; decide) | assumption | exact szlt (by simp) | exact szle (by simp))
/-- a list or tuple that stands -/
local macro_rules | `(tactic| walk_at "lk") => `(tactic| first | assumption | exact SqL.of (by assumption) | exact SqT.of (by assumption) | exact SqL.of upd_same | exact SqT.of upd_same | (refine' FzL.sq ?hm; (case hm => walk_at "fz")))
/-- a list that nobody writes -/
local macro_rules | `(tactic| walk_at "fz") => `(tactic| first | assumption | ((refine' FzL.uw ?hm ?hx); (case hx => walk_at "hp"); (case hm => walk_at "fz")) | ((refine' FzL.nw ?hm ?hx); (case hx => assumption); (case hm => walk_at "fz")))
/-- as far as it goes by itself -/
local macro_rules | `(tactic| walk_at "g") => `(tactic| repeat walk_at "g1")
/-- the body's reading, its places in short -/
local macro_rules | `(tactic| walk_at "go") => `(tactic| ((try dsimp only [cxOf, Cx.nox, Cx.wish]); walk_at "g"))
namespace K3
open PySem PySem.Spec PyProof.Rows L2 Bq
section
variable {P : Program} {w : World} {K : PySem.W.Frag} {mg : Str → Option Value} {base : Heap}
/-- further steps: dicts written, tuples taken apart -/
local macro_rules | `(tactic| walk_at "g1") => `(tactic| first
  | with_reducible refine' g_sdput ?_
  | ((with_reducible refine' g_gtup ?hs ?hl ?_); (case hs => walk_at "lk"); (case hl => rfl))
  | with_reducible refine' g_gcons ?_
  | with_reducible refine' g_gnil ?_
  | with_reducible refine' And.intro (Eq.refl V.non) ?_
  | with_reducible refine' g_isN ?_
  | ((with_reducible refine' g_chainR ?ha ?hb ?hc ?_); (case ha => intro R q; walk_at "g"; exact q); (case hb => intro R q; walk_at "g"; exact q); (case hc => intro R q; walk_at "g"; exact q))
  | with_reducible refine' g_notN ?_)
/-- what the law's dict tells -/
local macro_rules | `(tactic| walk_at "dg") => `(tactic| first
  | assumption
  | exact LH.gfuns (by assumption)
  | exact LH.gsaid (by assumption)
  | exact LH.gcells (by assumption)
  | exact LH.gfuel (by assumption)
  | exact LH.gend (by assumption)
  | exact LH.gcalls (by assumption)
  | exact LH.gnames (by assumption)
  | exact LH.gwaits (by assumption)
  | exact LH.gworth (by assumption)
  | exact LH.glook (by assumption))
/-- a test that fails, that holds, by itself -/
local macro_rules | `(tactic| walk_at "no") => `(tactic| ((refine tkF rfl ?_); walk_at "g"))
local macro_rules | `(tactic| walk_at "yes") => `(tactic| ((refine tkT rfl ?_); walk_at "g"))
local macro_rules | `(tactic| walk_at "g1") => `(tactic| first
  | with_reducible refine' g_catS ?_
  | with_reducible refine' g_mulS ?_
  | with_reducible refine' g_rev ?_)
/-! ### the program: what stands behind a word -/
theorem pe_kget2 {X : Cx} {d : Addr} {i : Expr} {pos p : Pos} {x : Str} {ty : TE} (hD : ∃ es n, KDict X.K X.w d es n) (hg : Gl X x) (hm : X.mg x = some (.ref d)) (hi : PE X i ty) (hs : NoSl i) (hdb : (x == ("__debug__" : Str)) = false := by decide) : PE X (.Subscript (.Name x p) i pos) (tKGet X.K (tC (.ref d)) ty) :=
  pe_kget (o := i) hD hg hm hi hs hdb
def isIntT : T → Bool
  | .int _ => true
  | _ => false
def spIsNum (K : PySem.W.Frag) : Sp := fun vs H Q _ => ∃ v t, vs = [v] ∧ Rep K H v t ∧ Q (.bl (isIntT t)) H
theorem fn_is_number (C : Cn w K mg base) : Fn P w K mg base CX0 1 "is_number" ["thing"] (spIsNum K) := C.f_is_number fun fd F => by
  refine F.ok (CX := CX0) sc_is_number (fun vs H Q E h => ?_) (fun cdv A outer s H vs Q E hr h => ?_)
  · obtain ⟨v, t, rfl, _⟩ := h
    rfl
  · obtain ⟨v, t, rfl, r, q⟩ := h
    refine ⟨_, PSs.nox (pss_one (ps_ret (pe_mid (pe_and (pe_callB call_isi (by rfl) (C.m_isinstance) (by decide +kernel) (pa_cons (pv 0) (pa_cons (pe_bty "int" (by rfl) (C.m_int) (by decide +kernel)) pa_nil))) (pe_one (pe_not (pe_callB call_isi (by rfl) (C.m_isinstance) (by decide +kernel) (pa_cons (pv 0) (pa_cons (pe_bty "bool" (by rfl) (C.m_bool) (by decide +kernel)) pa_nil))))))))), ?_⟩
    walk_at "go"
    refine g_midE (fun v' H' => v' = .bl (isIntT t) ∧ H' = H) ?_ ?_
    · walk_at "g"
      refine g_isi r.ty (kit_int t) ?_
      cases t with
      | int i =>
        walk_at "g"
        walk_at "yes"
        refine g_isi r.ty (kit_bool (.int i)) ?_
        walk_at "g"
        exact ⟨rfl, rfl⟩
      | str i =>
        walk_at "g"
        walk_at "no"
        exact ⟨rfl, rfl⟩
      | tup i =>
        walk_at "g"
        walk_at "no"
        exact ⟨rfl, rfl⟩
    · rintro _ H1 ⟨rfl, e1⟩
      rw [e1]
      exact q
def plT : Th → List Str
  | .p (.num _) => ["n"]
  | .p (.name _) => ["name"]
  | .p (.bin _ _ _) => ["part", "part"]
  | .p (.nt _) => ["part"]
  | .p (.get _) => ["part"]
  | .p (.call _ _) => ["fun", "parts"]
  | .d (.set _ _) => ["name", "part"]
  | .d (.put _ _) => ["part", "part"]
  | .d (.say _) => ["part"]
  | .d (.ite _ _ _) => ["part", "body", "body"]
  | .d (.whl _ _) => ["part", "body"]
  | .d (.ret _) => ["part"]
  | .d (.dop _) => ["part"]
theorem plT_len (t : Th) : (plT t).length = (restT t).length := by
  cases t with
  | p p => cases p <;> rfl
  | d d => cases d <;> rfl
theorem deeds_tab (C : Cn w K mg base) (t : Th) : match t with
    | .p _ => PySem.W.nsIn K (He.ga K "DEEDS") (wdT t) = some none
    | .d _ => ∃ a, PySem.W.nsIn K (He.ga K "DEEDS") (wdT t) = some (some (.ref a)) ∧ ∀ H, SqT K H a ((plT t).map V.str) := by
  cases t with
  | p p => cases p with
    | bin op a b => cases op <;> exact modTab_no C.v_DEEDS (by simp only [wdT, Op.str, plT]; decide +kernel)
    | _ => exact modTab_no C.v_DEEDS (by simp only [wdT, Op.str, plT]; decide +kernel)
  | d d => cases d <;> exact modTab_yes C.v_DEEDS (by simp only [wdT, Op.str, plT]; decide +kernel)
theorem parts_tab (C : Cn w K mg base) (t : Th) : match t with
    | .d _ => PySem.W.nsIn K (He.ga K "PARTS") (wdT t) = some none
    | .p _ => ∃ a, PySem.W.nsIn K (He.ga K "PARTS") (wdT t) = some (some (.ref a)) ∧ ∀ H, SqT K H a ((plT t).map V.str) := by
  cases t with
  | p p => cases p with
    | bin op a b => cases op <;> exact modTab_yes C.v_PARTS (by simp only [wdT, Op.str, plT]; decide +kernel)
    | _ => exact modTab_yes C.v_PARTS (by simp only [wdT, Op.str, plT]; decide +kernel)
  | d d => cases d <;> exact modTab_no C.v_PARTS (by simp only [wdT, Op.str, plT]; decide +kernel)
def spPlaces (K : PySem.W.Frag) : Sp := fun vs H Q _ => ∃ t, vs = [.str (wdT t)] ∧ ∀ a, (∀ H', SqT K H' a ((plT t).map V.str)) → Q (.ref a) H
theorem g_kget {td ty : TE} {σ : L2.St} {H : Hp} {Q : VK} (h : td σ H fun x H1 => ty σ H1 fun y H2 => ∃ (d : Addr) (z : Str) (u0 : Value) (v0 : V), x = .ref d ∧ y = .str z ∧ PySem.W.nsIn K d z = some (some u0) ∧ RelV v0 u0 ∧ Q v0 H2) : tKGet K td ty σ H Q := h
theorem fn_places (C : Cn w K mg base) : Fn P w K mg base CX0 1 "places_behind" ["word"] (spPlaces K) := C.f_places_behind fun fd F => by
  refine F.ok (CX := CX0) sc_places_behind (fun vs H Q E h => ?_) (fun cdv A outer s H vs Q E hr h => ?_)
  · obtain ⟨t, rfl, _⟩ := h
    rfl
  · obtain ⟨t, rfl, q⟩ := h
    refine ⟨_, PSs.nox (pss_cons (ps_if (pt_cmpR (op_in_mod C.k_DEEDS) (pv 0) (pe_glob (v := .ref _) (by rfl) C.g_DEEDS rfl) (by rfl)) (pss_one (ps_ret (pe_kget2 C.k_DEEDS (by rfl) C.g_DEEDS (pv 0) (fun _ _ => rfl)))) pss_nil)
      (pss_one (ps_ret (pe_kget2 C.k_PARTS (by rfl) C.g_PARTS (pv 0) (fun _ _ => rfl))))), ?_⟩
    have hd := deeds_tab C t
    have hp := parts_tab C t
    walk_at "go"
    cases t with
    | p p =>
      refine ⟨_, _, rfl, rfl, hd, ?_⟩
      walk_at "g"
      walk_at "no"
      refine g_kget ?_
      obtain ⟨a, ha, hS⟩ := hp
      walk_at "g"
      exact ⟨_, _, _, .ref a, rfl, rfl, ha, rfl, q a hS⟩
    | d d =>
      obtain ⟨a, ha, hS⟩ := hd
      refine ⟨_, _, rfl, rfl, ha, ?_⟩
      walk_at "g"
      walk_at "yes"
      refine g_kget ?_
      walk_at "g"
      exact ⟨_, _, _, .ref a, rfl, rfl, ha, rfl, q a hS⟩
end
end K3
end

section
set_option maxRecDepth 100000
set_option maxHeartbeats 1000000
open Bq L2
/-- one step of a reading; what is left are side goals and places to think -/
local macro_rules | `(tactic| walk_at "g1") => `(tactic| first
  | with_reducible refine' g_seq ?_ | with_reducible refine' g_asg ?_ | with_reducible refine' g_drop ?_ | with_reducible refine' g_ret ?_ | with_reducible refine' g_ifS ?_ | with_reducible refine' g_asgG ?_
  | ((with_reducible refine' g_var ?hv ?_); (case hv => rfl))
  | with_reducible refine' g_c ?_ | with_reducible refine' g_op ?_ | with_reducible refine' g_un ?_ | with_reducible refine' g_I0 ?_ | with_reducible refine' g_U ?_
  | with_reducible refine' g_test ?_ | with_reducible refine' g_tB ?_ | with_reducible refine Exists.intro _ (And.intro rfl ?_) 
  | ((with_reducible refine' g_andP ?ha ?hb ?_); (case ha => intro R q; walk_at "g"; exact q); (case hb => intro R q; walk_at "g"; exact q))
  | ((with_reducible refine' g_orP ?ha ?hb ?_); (case ha => intro R q; walk_at "g"; exact q); (case hb => intro R q; walk_at "g"; exact q))
  | with_reducible refine' g_and ?_ | with_reducible refine' g_or ?_ | with_reducible refine' g_not ?_
  | with_reducible refine' g_andV ?_ | with_reducible refine' g_orV ?_ | with_reducible refine' g_notV ?_ | with_reducible refine' g_if ?_ | with_reducible refine' g_nil ?_ | with_reducible refine' g_cons ?_
  | with_reducible refine' g_tup ?_ | with_reducible refine' g_lst ?_ | with_reducible refine' g_CB ?_ | with_reducible refine' g_Fn ?_ | with_reducible refine' g_next ?_ | with_reducible refine' g_retN ?_
  | with_reducible refine' g_name ?_ | with_reducible refine' g_sub ?_
  | ((with_reducible refine' g_ixL ?hs ?he ?_); (case hs => walk_at "lk"); (case he => walk_at "at"))
  | ((with_reducible refine' g_ixT ?hs ?he ?_); (case hs => walk_at "lk"); (case he => walk_at "at"))
  | ((with_reducible refine' g_setL ?hs ?he ?_); (case hs => walk_at "hp"); (case he => rfl))
  | ((with_reducible refine' g_app ?hs ?hz ?_); (case hs => walk_at "hp"); (case hz => walk_at "sz"))
  | ((with_reducible refine' ⟨_, _, rfl, Or.inl ?hs, ?_⟩); (case hs => walk_at "lk"))
  | ((with_reducible refine' ⟨_, _, rfl, Or.inr ?hs, ?_⟩); (case hs => walk_at "lk"))
  | with_reducible refine' g_BM ?_ | with_reducible refine' g_BM0 ?_ | ((with_reducible refine' g_tyL ?hs ?_); (case hs => walk_at "lk"))
  | with_reducible refine' g_sl ?_ | with_reducible refine' g_noPart ?_ | with_reducible refine' g_part ?_
  | ((with_reducible refine' g_inT ?hs ?fx ?fs ?_); (case hs => walk_at "lk"); (case fx => rfl); (case fs => rfl))
  | with_reducible refine' g_pair ?_ | with_reducible refine' g_pair0 ?_ | with_reducible refine' g_disp ?_
  | with_reducible refine' g_for ?_ | with_reducible refine' g_tupC ?_ | with_reducible refine' g_lstC ?_ | ((with_reducible refine' g_lens ?_)) | with_reducible refine' g_dg ?_ | with_reducible refine' g_lc ?_ | with_reducible refine' g_rng1 ?_ | with_reducible refine' g_ilist ?_ | with_reducible refine' g_itup ?_
  | ((with_reducible refine' ⟨_, _, rfl, ?hd, ?_⟩); (case hd => walk_at "dg"))
  | ((with_reducible refine' g_eqNil ?hs ?hz ?_); (case hs => walk_at "lk"); (case hz => walk_at "lk"))
  | ((with_reducible refine' g_neNil ?hs ?hz ?_); (case hs => walk_at "lk"); (case hz => walk_at "lk"))
  | with_reducible refine Or.inl ⟨_, rfl, ?_⟩
  | with_reducible refine Or.inr ⟨_, rfl, ?_⟩
  | ((with_reducible refine' g_eq ?hs ?_); (case hs => rfl))
  | ((with_reducible refine' g_ne ?hs ?_); (case hs => rfl))
  | ((with_reducible refine' g_I ?hc ?_); (case hc => walk_at "ar")))
/-- arithmetic's side conditions -/
local macro_rules | `(tactic| walk_at "ar") => `(tactic| (first
  | (show (0 : Int) < _; first | omega | decide) | (show (0 : Int) < _ ∧ _; constructor <;> omega) | (show ¬ (_ : Int) = _; omega) | (show (_ : Int) ≠ _ ∧ _; constructor <;> omega)
  | (show (-(2 ^ 64) < _ ∧ _) ∨ _; (first | (left; constructor <;> omega) | (right; constructor <;> omega))) | (show (0 : Int) ≤ _ ∧ _ ∧ _; refine ⟨by omega, by omega, by decide⟩)))
/-- what stands at an index -/
local macro_rules | `(tactic| walk_at "at") => `(tactic| first | rfl | assumption)
/-- what stands at an address -/
local macro_rules | `(tactic| walk_at "hp") => `(tactic| first | assumption | exact upd_same | ((refine' Eq.trans (upd_ne ?hn) ?hm); (case hm => walk_at "hp"); (case hn => walk_at "ne")))
/-- two places are two -/
local macro_rules | `(tactic| walk_at "ne") => `(tactic| first
  | assumption | exact Ne.symm (by assumption)
  | ((refine' ne_of_none ?ha ?hb); (case hb => assumption); (case ha => walk_at "hp")) | ((refine' Ne.symm (ne_of_none ?ha ?hb)); (case hb => assumption); (case ha => walk_at "hp")))
/-- what a dict tells -/
local macro_rules | `(tactic| walk_at "dg") => `(tactic| first | assumption)
/-- a length -/
local macro_rules | `(tactic| walk_at "sz") => `(tactic| first | (show _ ≤ sizeLine; decide) | (show _ < sizeLine; decide) | assumption | exact szlt (by simp) | exact szle (by simp))
/-- a list or tuple that stands -/
local macro_rules | `(tactic| walk_at "lk") => `(tactic| first | assumption | exact SqL.of (by assumption) | exact SqT.of (by assumption) | exact SqL.of upd_same | exact SqT.of upd_same | (refine' FzL.sq ?hm; (case hm => walk_at "fz")))
/-- a list that nobody writes -/
local macro_rules | `(tactic| walk_at "fz") => `(tactic| first | assumption | ((refine' FzL.uw ?hm ?hx); (case hx => walk_at "hp"); (case hm => walk_at "fz")) | ((refine' FzL.nw ?hm ?hx); (case hx => assumption); (case hm => walk_at "fz")))
/-- as far as it goes by itself -/
local macro_rules | `(tactic| walk_at "g") => `(tactic| repeat walk_at "g1")
/-- the body's reading, its places in short -/
local macro_rules | `(tactic| walk_at "go") => `(tactic| ((try dsimp only [cxOf, Cx.nox, Cx.wish]); walk_at "g"))
namespace K3
open PySem PySem.Spec PyProof.Rows L2 Bq
section
variable {P : Program} {w : World} {K : PySem.W.Frag} {mg : Str → Option Value} {base : Heap}
/-- further steps: dicts written, tuples taken apart -/
local macro_rules | `(tactic| walk_at "g1") => `(tactic| first
  | with_reducible refine' g_sdput ?_
  | ((with_reducible refine' g_gtup ?hs ?hl ?_); (case hs => walk_at "lk"); (case hl => rfl))
  | with_reducible refine' g_gcons ?_
  | with_reducible refine' g_gnil ?_
  | with_reducible refine' And.intro (Eq.refl V.non) ?_
  | with_reducible refine' g_isN ?_
  | ((with_reducible refine' g_chainR ?ha ?hb ?hc ?_); (case ha => intro R q; walk_at "g"; exact q); (case hb => intro R q; walk_at "g"; exact q); (case hc => intro R q; walk_at "g"; exact q))
  | with_reducible refine' g_notN ?_)
/-- what the law's dict tells -/
local macro_rules | `(tactic| walk_at "dg") => `(tactic| first
  | assumption
  | exact LH.gfuns (by assumption)
  | exact LH.gsaid (by assumption)
  | exact LH.gcells (by assumption)
  | exact LH.gfuel (by assumption)
  | exact LH.gend (by assumption)
  | exact LH.gcalls (by assumption)
  | exact LH.gnames (by assumption)
  | exact LH.gwaits (by assumption)
  | exact LH.gworth (by assumption)
  | exact LH.glook (by assumption))
/-- a test that fails, that holds, by itself -/
local macro_rules | `(tactic| walk_at "no") => `(tactic| ((refine tkF rfl ?_); walk_at "g"))
local macro_rules | `(tactic| walk_at "yes") => `(tactic| ((refine tkT rfl ?_); walk_at "g"))
local macro_rules | `(tactic| walk_at "g1") => `(tactic| first
  | with_reducible refine' g_catS ?_
  | with_reducible refine' g_mulS ?_
  | with_reducible refine' g_rev ?_)
/-! ### parts and bodies of a thing -/
theorem lcZ {a b : Addr} {xs ys : List V} {g : TG} {tt : TT} {te : TE} {vs : List Nat} {σ : L2.St} {H1 : Hp} {D : Addr} {Qd : Hp → Prop} (hl : xs.length = ys.length) (Pv : Nat → Hp → Prop) (h0 : Pv 0 (upd H1 D (.lst []))) (hq : ∀ i H, Pv i H → SqT K H a xs ∧ SqT K H b ys)
    (hs : ∀ (i : Nat) x y T H, xs[i]? = some x → ys[i]? = some y → Pv i H → H T = none → g (.ref T) (wipe σ vs) (upd H T (.tup [x, y])) fun σ2 H2 => wipe σ2 vs = wipe σ vs ∧ tt σ2 H2 fun b H3 =>
      if b = true then te σ2 H3 fun y H4 => ∃ acc, H4 D = some (.lst acc) ∧ acc.length < sizeLine ∧ Pv (i + 1) (upd H4 D (.lst (acc ++ [y]))) else Pv (i + 1) H3) (hd : ∀ H, Pv xs.length H → Qd H) :
    ∃ W : Nat → Nat → Hp → Prop, (∃ m, W 0 m (upd H1 D (.lst []))) ∧ ∀ i m H, W i m H →
      ((RZ.ItzT K a b).stop i H ∧ Qd H) ∨ ((RZ.ItzT K a b).go i H ∧ ∃ Nx : Hp → Prop, (∀ H', Nx H' → ∃ m', m' < m ∧ W (i + 1) m' H') ∧ ∀ x H', (RZ.ItzT K a b).yld i H x H' → g x (wipe σ vs) H' fun σ2 H2 => wipe σ2 vs = wipe σ vs ∧ tt σ2 H2 fun b H3 =>
        if b = true then te σ2 H3 fun y H4 => ∃ acc, H4 D = some (.lst acc) ∧ acc.length < sizeLine ∧ Nx (upd H4 D (.lst (acc ++ [y]))) else Nx H3) := by
  refine ⟨fun i m H => m = xs.length - i ∧ i ≤ xs.length ∧ Pv i H, ⟨xs.length, rfl, Nat.zero_le _, h0⟩, ?_⟩
  rintro i m H ⟨rfl, hi, p⟩
  obtain ⟨qx, qy⟩ := hq i H p
  by_cases hlt : i < xs.length
  · have hx : xs[i]? = some xs[i] := List.getElem?_eq_getElem hlt
    have hlt2 : i < ys.length := by omega
    have hy : ys[i]? = some ys[i] := List.getElem?_eq_getElem hlt2
    refine .inr ⟨⟨xs, ys, _, _, qx, qy, hx, hy⟩, Pv (i + 1), fun H' p' => ⟨xs.length - (i + 1), by omega, rfl, hlt, p'⟩, fun v H' y => ?_⟩
    obtain ⟨T, x', y', rfl, hT, rfl, f1, f2⟩ := y
    exact hs i x' y' T H (f1 xs qx) (f2 ys qy) p hT
  · have e : i = xs.length := by omega
    subst e
    exact .inl ⟨⟨xs, ys, qx, qy, Or.inl (Nat.le_refl _)⟩, hd H p⟩
def filT (w : Str) : List Str → List T → List T
  | s :: ss, t :: ts => if s = w then t :: filT w ss ts else filT w ss ts
  | _, _ => []
theorem filT_take (w : Str) : ∀ (ss : List Str) (ts : List T) (i : Nat) (s : Str) (t : T), ss[i]? = some s → ts[i]? = some t → filT w (ss.take (i + 1)) (ts.take (i + 1)) = filT w (ss.take i) (ts.take i) ++ (if s = w then [t] else [])
  | [], _, i, s, t, h, _ => by simp at h
  | _ :: _, [], i, s, t, _, h => by simp at h
  | a :: ss, b :: ts, 0, s, t, h, k => by
    simp at h k
    subst h
    subst k
    simp only [List.take_succ_cons, List.take_zero, filT]
    split <;> rfl
  | a :: ss, b :: ts, i + 1, s, t, h, k => by
    have ih := filT_take w ss ts i s t (by simpa using h) (by simpa using k)
    simp only [List.take_succ_cons, filT]
    rw [ih]
    split <;> simp
theorem filT_le (w : Str) : ∀ (ss : List Str) (ts : List T), (filT w ss ts).length ≤ ss.length
  | [], _ => Nat.zero_le _
  | _ :: _, [] => Nat.zero_le _
  | a :: ss, b :: ts => by
    have := filT_le w ss ts
    simp only [filT]
    split <;> simp only [List.length_cons] <;> omega
theorem fil_parts {t : Th} (h : notCall t) : filT "part" (plT t) (restT t) = encPs (innerT t) := by
  cases t with
  | p p => cases p with
    | call f ps => exact h.elim
    | _ => rfl
  | d d => cases d <;> rfl
def bodT : Th → List (List Dd)
  | .d (.ite _ a b) => [a, b]
  | .d (.whl _ b) => [b]
  | _ => []
theorem fil_bodies (t : Th) : filT "body" (plT t) (restT t) = (bodT t).map fun b => .tup (encB b) := by
  cases t with
  | p p => cases p <;> rfl
  | d d => cases d <;> rfl
theorem plT_le (t : Th) : (plT t).length ≤ 3 := by
  cases t with
  | p p => cases p <;> simp [plT]
  | d d => cases d <;> simp [plT]
def spBodies (K : PySem.W.Frag) : Sp := fun vs H Q _ => ∃ v t, vs = [v] ∧ Rep K H v (encT t) ∧ ∀ H' l us, Ch K [] H H' → H l = none → H' l = some (.lst us) → Reps K H' us ((bodT t).map fun b => .tup (encB b)) → Q (.ref l) H'
/-- the comprehension of both -/
theorem lc_fil {w : Str} {t : Th} {a b : Addr} {us : List V} {σ : L2.St} {H0 H1 : Hp} {D : Addr} {Q : VK} (hw : ∀ u v : Option V, wipe ((((wipe σ [1, 2]).set 1 u).set 2 v)) [1, 2] = wipe σ [1, 2]) (h3 : 2 < σ.length)
    (c : Ch K [] H0 H1) (nD : H1 D = none) (hS : SqT K H1 a ((plT t).map V.str)) (hS2 : SqT K H1 b us) (rs : Reps K H1 us (restT t)) (q : ∀ H', Ch K [] H0 H' → (∃ us', H' D = some (.lst us') ∧ Reps K H' us' (filT w (plT t) (restT t))) → Q (.ref D) H') :
    ∃ W : Nat → Nat → Hp → Prop, (∃ m, W 0 m (upd H1 D (.lst []))) ∧ ∀ i m H, W i m H →
      ((RZ.ItzT K a b).stop i H ∧ Q (.ref D) H) ∨ ((RZ.ItzT K a b).go i H ∧ ∃ Nx : Hp → Prop, (∀ H', Nx H' → ∃ m', m' < m ∧ W (i + 1) m' H') ∧ ∀ x H', (RZ.ItzT K a b).yld i H x H' → gTup K 2 (gCons (gName 1) (gCons (gName 2) gNil)) x (wipe σ [1, 2]) H' fun σ2 H2 => wipe σ2 [1, 2] = wipe σ [1, 2] ∧ tTest (tOp rEq (tVar 1) (tC (.str w))) σ2 H2 fun b H3 =>
        if b = true then tVar 2 σ2 H3 fun y H4 => ∃ acc, H4 D = some (.lst acc) ∧ acc.length < sizeLine ∧ Nx (upd H4 D (.lst (acc ++ [y]))) else Nx H3) := by
  have hpl := plT_le t
  have ll : ((plT t).map V.str).length = us.length := by rw [List.length_map, plT_len, rs.len]
  refine lcZ (xs := (plT t).map V.str) (ys := us) ll (fun i H' => Ch K [] H1 H' ∧ ∃ us', H' D = some (.lst us') ∧ Reps K H' us' (filT w ((plT t).take i) ((restT t).take i))) ⟨Ch.new nD, [], upd_same, by
      rw [List.take_zero]
      exact .nil⟩ (fun i H' p => ⟨p.1.sqT hS, p.1.sqT hS2⟩) ?_ ?_
  · rintro i x y T H2 hx hy ⟨c2, us', eD, r2⟩ nT
    rw [List.getElem?_map] at hx
    cases es : (plT t)[i]? with
    | none => rw [es] at hx; cases hx
    | some s =>
      rw [es] at hx
      obtain rfl : V.str s = x := Option.some.inj hx
      obtain ⟨ty, ety, ry⟩ := rs.get hy
      have cT : Ch K [] H2 (upd H2 T (.tup [.str s, y])) := Ch.new nT
      have eT : (upd H2 T (.tup [.str s, y])) T = some (.tup [.str s, y]) := upd_same
      generalize upd H2 T (.tup [.str s, y]) = H3 at cT eT ⊢
      refine ⟨T, _, rfl, SqT.of eT, rfl, _, _, rfl, _, _, rfl, rfl, ?_, ?_⟩
      · exact hw _ _
      · have l2 : 2 < (wipe σ [1, 2]).length := by
          rw [wipe_length]
          exact h3
        have v1 : (((wipe σ [1, 2]).set 1 (some (V.str s))).set 2 (some y))[1]? = some (some (V.str s)) := by
          rw [List.getElem?_set_ne (by decide), List.getElem?_set_self (by omega)]
        have v2 : (((wipe σ [1, 2]).set 1 (some (V.str s))).set 2 (some y))[2]? = some (some y) := by
          rw [List.getElem?_set_self (by simpa using l2)]
        have ft := filT_take w _ _ i s ty es ety
        have c13 := c2.trans cT
        refine g_test (g_op (g_var v1 (g_c (g_eq rfl ⟨_, rfl, ?_⟩))))
        by_cases e : s = w
        · subst e
          rw [if_pos (by simp)]
          refine g_var v2 ?_
          have eD3 := cT.up _ _ eD (by simp)
          have c4 : Ch K [] H1 (upd H3 D (.lst (us' ++ [y]))) := Ch.wrN c13 nD eD3 rfl
          have k4 : Kt K H3 (upd H3 D (.lst (us' ++ [y]))) := (Ch.wrL (S := [D]) eD3 (by simp)).kt
          refine ⟨us', eD3, ?_, c4, _, upd_same, ?_⟩
          · have l1 := r2.len
            have l2 := filT_le s ((plT t).take i) ((restT t).take i)
            rw [List.length_take] at l2
            exact szlt (by omega)
          · rw [ft, if_pos rfl]
            exact (r2.kt (cT.kt.trans k4)).append (.cons (ry.kt c4.kt) .nil)
        · rw [if_neg (by simpa using e)]
          refine ⟨c13, us', cT.up _ _ eD (by simp), ?_⟩
          rw [ft, if_neg e, List.append_nil]
          exact r2.kt cT.kt
  · rintro H2 ⟨c2, us', eD, r2⟩
    refine q H2 (c.trans c2) ⟨us', eD, ?_⟩
    have l1 : ((plT t).map V.str).length = (plT t).length := List.length_map ..
    have l2 := plT_len t
    rw [List.take_of_length_le (by omega), List.take_of_length_le (by omega)] at r2
    exact r2
theorem g_zipA {ta : TA} {σ : L2.St} {H : Hp} {R : It → Hp → Prop} (h : ta σ H fun vs H1 => ∃ a b xs ys, vs = [.ref a, .ref b] ∧ ((SqL K H1 a xs ∧ SqL K H1 b ys ∧ R (Itz K a b) H1) ∨ (SqT K H1 a xs ∧ SqT K H1 b ys ∧ R (RZ.ItzT K a b) H1))) : RZ.iZipA K ta σ H R := h
theorem fn_bodies (C : Cn w K mg base) : Fn P w K mg base CX0 2 "bodies_of" ["thing"] (spBodies K) := C.f_bodies_of fun fd F => by
  have F_places_behind : Fn P w K mg base CX0 1 "places_behind" ["word"] (spPlaces K) := fn_places C
  refine F.ok (CX := CX0) sc_bodies_of (fun vs H Q E h => ?_) (fun cdv A outer s H vs Q E hr h => ?_)
  · obtain ⟨v, t, rfl, _⟩ := h
    rfl
  · obtain ⟨v, t, rfl, rep, q⟩ := h
    refine ⟨_, PSs.nox (pss_one (ps_ret (pe_lc (own := [("place", 1), ("item", 2)]) (g := (gTup K 2 (gCons (gName 1) (gCons (gName 2) gNil)))) rfl sc_bodies_of.nd (RZ.pi_zipA (by rfl) (C.m_zip) (pa_cons (pe_fn F_places_behind (rmm hr) (by rfl) pass0 (pa_cons (pe_ix ix_tup (pv 0) pe_int (fun _ _ => rfl)) pa_nil)) (pa_cons (pe_slice sl_tupR (pv 0) (po_some pe_int) po_none) pa_nil))) (blkOk_by (own := [("place", 1), ("item", 2)]) (N := ["thing", "place", "item"]) (sc := defScope s_bodies_of) (by decide +kernel)) (fun _ _ _ _ _ => pg_tup rfl (pgs_cons (pg_name (i := 1) sc_bodies_of.nd rfl (Or.inl rfl) (Or.inr rfl)) (pgs_cons (pg_name (i := 2) sc_bodies_of.nd rfl (Or.inl rfl) (Or.inr rfl)) pgs_nil))) (fun _ _ _ _ _ => pts_one (pt_cmpR op_eq (pv 1) pe_str (nomark _))) (fun _ _ _ _ _ => (pv 2))))), ?_⟩
    have rep0 := rep
    rw [encT_eq] at rep
    obtain ⟨a, us, rfl, hS, rs⟩ := thing1 rep0
    have h0 := atI_nat (j := 0) (List.getElem?_cons_zero (a := V.str (wdT t)) (l := us))
    walk_at "go"
    refine g_zipA ?_
    walk_at "g"
    refine ⟨t, rfl, fun pa hpl => ?_⟩
    walk_at "g"
    refine ⟨_, (show Rep K H (.ref a) (.tup (.str (wdT t) :: restT t)) from by rw [← encT_eq]; exact rep0), fun v1 H1 c1 r1 => ?_⟩
    rw [show (some (1 : Int)) = some ((1 : Nat) : Int) from rfl, cutT_from] at r1
    obtain ⟨b, ub, rfl, hb, rb⟩ := r1.tupI
    walk_at "g"
    refine ⟨pa, b, _, _, rfl, .inr ⟨hpl H1, hb, fun D nD => ?_⟩⟩
    refine lc_fil (w := "body") (fun _ _ => rfl) (Nat.lt_succ_self 2) c1 nD (hpl H1) hb rb fun H2 c2 ⟨us', eD, r2⟩ => ?_
    rw [fil_bodies] at r2
    exact q H2 D us' c2 (c1.free nD (by simp)) eD r2
theorem fn_parts (C : Cn w K mg base) : Fn P w K mg base CX0 2 "parts_of" ["thing"] (spInner K) := C.f_parts_of fun fd F => by
  have F_places_behind : Fn P w K mg base CX0 1 "places_behind" ["word"] (spPlaces K) := fn_places C
  refine F.ok (CX := CX0) sc_parts_of (fun vs H Q E h => ?_) (fun cdv A outer s H vs Q E hr h => ?_)
  · obtain ⟨v, t, rfl, _⟩ := h
    rfl
  · obtain ⟨v, t, rfl, rep, q⟩ := h
    refine ⟨_, PSs.nox (pss_cons (ps_if (pt_cmpR op_eq (pe_ix ix_tup (pv 0) pe_int (fun _ _ => rfl)) pe_str (nomark _)) (pss_one (ps_ret (pe_callTy call_list_of (by rfl) (C.m_list) (by decide +kernel) (pa_cons (pe_ix ix_tup (pv 0) pe_int (fun _ _ => rfl)) pa_nil)))) pss_nil)
      (pss_one (ps_ret (pe_lc (own := [("place", 1), ("item", 2)]) (g := (gTup K 2 (gCons (gName 1) (gCons (gName 2) gNil)))) rfl sc_parts_of.nd (RZ.pi_zipA (by rfl) (C.m_zip) (pa_cons (pe_fn F_places_behind (rmm hr) (by rfl) pass0 (pa_cons (pe_ix ix_tup (pv 0) pe_int (fun _ _ => rfl)) pa_nil)) (pa_cons (pe_slice sl_tupR (pv 0) (po_some pe_int) po_none) pa_nil))) (blkOk_by (own := [("place", 1), ("item", 2)]) (N := ["thing", "place", "item"]) (sc := defScope s_parts_of) (by decide +kernel)) (fun _ _ _ _ _ => pg_tup rfl (pgs_cons (pg_name (i := 1) sc_parts_of.nd rfl (Or.inl rfl) (Or.inr rfl)) (pgs_cons (pg_name (i := 2) sc_parts_of.nd rfl (Or.inl rfl) (Or.inr rfl)) pgs_nil))) (fun _ _ _ _ _ => pts_one (pt_cmpR op_eq (pv 1) pe_str (nomark _))) (fun _ _ _ _ _ => (pv 2)))))), ?_⟩
    have rep0 := rep
    rw [encT_eq] at rep
    obtain ⟨a, us, rfl, hS, rs⟩ := thing1 rep0
    have h0 := atI_nat (j := 0) (List.getElem?_cons_zero (a := V.str (wdT t)) (l := us))
    walk_at "go"
    refine iteB (fun h => ?_) (fun h => ?_)
    · obtain ⟨f, ps, rfl⟩ : ∃ f ps, t = .p (.call f ps) := by
        cases t with
        | p p => cases p with
          | call f ps => exact ⟨f, ps, rfl⟩
          | _ => rw [wd_call (by trivial)] at h; cases h
        | d d => rw [wd_call (by trivial)] at h; cases h
      obtain ⟨v1, vs2, rfl, _, rs2⟩ := rs.consI
      obtain ⟨v2, vs3, rfl, r2, rs3⟩ := rs2.consI
      obtain rfl := rs3.nilI
      obtain ⟨b, us, rfl, hb, rus⟩ := r2.tupI
      walk_at "g"
      refine fun l nl => ?_
      exact q _ _ us (Ch.new nl) nl upd_same (rus.kt (Ch.new (S := []) nl).kt)
    · have hn : notCall t := by
        cases t with
        | p p => cases p with
          | call f ps => cases h
          | _ => trivial
        | d d => trivial
      walk_at "g"
      refine g_zipA ?_
      walk_at "g"
      refine ⟨t, rfl, fun pa hpl => ?_⟩
      walk_at "g"
      refine ⟨_, (show Rep K H (.ref a) (.tup (.str (wdT t) :: restT t)) from by rw [← encT_eq]; exact rep0), fun v1 H1 c1 r1 => ?_⟩
      rw [show (some (1 : Int)) = some ((1 : Nat) : Int) from rfl, cutT_from] at r1
      obtain ⟨b, ub, rfl, hb, rb⟩ := r1.tupI
      walk_at "g"
      refine ⟨pa, b, _, _, rfl, .inr ⟨hpl H1, hb, fun D nD => ?_⟩⟩
      refine lc_fil (w := "part") (fun _ _ => rfl) (Nat.lt_succ_self 2) c1 nD (hpl H1) hb rb fun H2 c2 ⟨us', eD, r2⟩ => ?_
      rw [fil_parts hn] at r2
      exact q H2 D us' c2 (c1.free nD (by simp)) eD r2
end
end K3
end

section
set_option maxRecDepth 100000
set_option maxHeartbeats 1000000
open Bq L2
/-- one step of a reading; what is left are side goals and places to think -/
local macro_rules | `(tactic| walk_at "g1") => `(tactic| first
  | with_reducible refine' g_seq ?_ | with_reducible refine' g_asg ?_ | with_reducible refine' g_drop ?_ | with_reducible refine' g_ret ?_ | with_reducible refine' g_ifS ?_ | with_reducible refine' g_asgG ?_
  | ((with_reducible refine' g_var ?hv ?_); (case hv => rfl))
  | with_reducible refine' g_c ?_ | with_reducible refine' g_op ?_ | with_reducible refine' g_un ?_ | with_reducible refine' g_I0 ?_ | with_reducible refine' g_U ?_
  | with_reducible refine' g_test ?_ | with_reducible refine' g_tB ?_ | with_reducible refine Exists.intro _ (And.intro rfl ?_) 
  | ((with_reducible refine' g_andP ?ha ?hb ?_); (case ha => intro R q; walk_at "g"; exact q); (case hb => intro R q; walk_at "g"; exact q))
  | ((with_reducible refine' g_orP ?ha ?hb ?_); (case ha => intro R q; walk_at "g"; exact q); (case hb => intro R q; walk_at "g"; exact q))
  | with_reducible refine' g_and ?_ | with_reducible refine' g_or ?_ | with_reducible refine' g_not ?_
  | with_reducible refine' g_andV ?_ | with_reducible refine' g_orV ?_ | with_reducible refine' g_notV ?_ | with_reducible refine' g_if ?_ | with_reducible refine' g_nil ?_ | with_reducible refine' g_cons ?_
  | with_reducible refine' g_tup ?_ | with_reducible refine' g_lst ?_ | with_reducible refine' g_CB ?_ | with_reducible refine' g_Fn ?_ | with_reducible refine' g_next ?_ | with_reducible refine' g_retN ?_
  | with_reducible refine' g_name ?_ | with_reducible refine' g_sub ?_
  | ((with_reducible refine' g_ixL ?hs ?he ?_); (case hs => walk_at "lk"); (case he => walk_at "at"))
  | ((with_reducible refine' g_ixT ?hs ?he ?_); (case hs => walk_at "lk"); (case he => walk_at "at"))
  | ((with_reducible refine' g_setL ?hs ?he ?_); (case hs => walk_at "hp"); (case he => rfl))
  | ((with_reducible refine' g_app ?hs ?hz ?_); (case hs => walk_at "hp"); (case hz => walk_at "sz"))
  | ((with_reducible refine' ⟨_, _, rfl, Or.inl ?hs, ?_⟩); (case hs => walk_at "lk"))
  | ((with_reducible refine' ⟨_, _, rfl, Or.inr ?hs, ?_⟩); (case hs => walk_at "lk"))
  | with_reducible refine' g_BM ?_ | with_reducible refine' g_BM0 ?_ | ((with_reducible refine' g_tyL ?hs ?_); (case hs => walk_at "lk"))
  | with_reducible refine' g_sl ?_ | with_reducible refine' g_noPart ?_ | with_reducible refine' g_part ?_
  | ((with_reducible refine' g_inT ?hs ?fx ?fs ?_); (case hs => walk_at "lk"); (case fx => rfl); (case fs => rfl))
  | with_reducible refine' g_pair ?_ | with_reducible refine' g_pair0 ?_ | with_reducible refine' g_disp ?_
  | with_reducible refine' g_for ?_ | with_reducible refine' g_tupC ?_ | with_reducible refine' g_lstC ?_ | ((with_reducible refine' g_lens ?_)) | with_reducible refine' g_dg ?_ | with_reducible refine' g_lc ?_ | with_reducible refine' g_rng1 ?_ | with_reducible refine' g_ilist ?_ | with_reducible refine' g_itup ?_
  | ((with_reducible refine' ⟨_, _, rfl, ?hd, ?_⟩); (case hd => walk_at "dg"))
  | ((with_reducible refine' g_eqNil ?hs ?hz ?_); (case hs => walk_at "lk"); (case hz => walk_at "lk"))
  | ((with_reducible refine' g_neNil ?hs ?hz ?_); (case hs => walk_at "lk"); (case hz => walk_at "lk"))
  | with_reducible refine Or.inl ⟨_, rfl, ?_⟩
  | with_reducible refine Or.inr ⟨_, rfl, ?_⟩
  | ((with_reducible refine' g_eq ?hs ?_); (case hs => rfl))
  | ((with_reducible refine' g_ne ?hs ?_); (case hs => rfl))
  | ((with_reducible refine' g_I ?hc ?_); (case hc => walk_at "ar")))
/-- arithmetic's side conditions -/
local macro_rules | `(tactic| walk_at "ar") => `(tactic| (first
  | (show (0 : Int) < _; first | omega | decide) | (show (0 : Int) < _ ∧ _; constructor <;> omega) | (show ¬ (_ : Int) = _; omega) | (show (_ : Int) ≠ _ ∧ _; constructor <;> omega)
  | (show (-(2 ^ 64) < _ ∧ _) ∨ _; (first | (left; constructor <;> omega) | (right; constructor <;> omega))) | (show (0 : Int) ≤ _ ∧ _ ∧ _; refine ⟨by omega, by omega, by decide⟩)))
/-- what stands at an index -/
local macro_rules | `(tactic| walk_at "at") => `(tactic| first | rfl | assumption)
/-- what stands at an address -/
local macro_rules | `(tactic| walk_at "hp") => `(tactic| first | assumption | exact upd_same | ((refine' Eq.trans (upd_ne ?hn) ?hm); (case hm => walk_at "hp"); (case hn => walk_at "ne")))
/-- two places are two -/
local macro_rules | `(tactic| walk_at "ne") => `(tactic| first
  | assumption | exact Ne.symm (by assumption)
  | ((refine' ne_of_none ?ha ?hb); (case hb => assumption); (case ha => walk_at "hp")) | ((refine' Ne.symm (ne_of_none ?ha ?hb)); (case hb => assumption); (case ha => walk_at "hp")))
/-- what a dict tells -/
local macro_rules | `(tactic| walk_at "dg") => `(tactic| first | assumption)
/-- a length -/
local macro_rules | `(tactic| walk_at "sz") => `(tactic| first | (show _ ≤ sizeLine; decide) | (show _ < sizeLine; decide) | assumption | exact szlt (by simp) | exact szle (by simp))
/-- a list or tuple that stands -/
local macro_rules | `(tactic| walk_at "lk") => `(tactic| first | assumption | exact SqL.of (by assumption) | exact SqT.of (by assumption) | exact SqL.of upd_same | exact SqT.of upd_same | (refine' FzL.sq ?hm; (case hm => walk_at "fz")))
/-- a list that nobody writes -/
local macro_rules | `(tactic| walk_at "fz") => `(tactic| first | assumption | ((refine' FzL.uw ?hm ?hx); (case hx => walk_at "hp"); (case hm => walk_at "fz")) | ((refine' FzL.nw ?hm ?hx); (case hx => assumption); (case hm => walk_at "fz")))
/-- as far as it goes by itself -/
local macro_rules | `(tactic| walk_at "g") => `(tactic| repeat walk_at "g1")
/-- the body's reading, its places in short -/
local macro_rules | `(tactic| walk_at "go") => `(tactic| ((try dsimp only [cxOf, Cx.nox, Cx.wish]); walk_at "g"))
namespace K3
open PySem PySem.Spec PyProof.Rows L2 Bq
section
variable {P : Program} {w : World} {K : PySem.W.Frag} {mg : Str → Option Value} {base : Heap}
/-- further steps: dicts written, tuples taken apart -/
local macro_rules | `(tactic| walk_at "g1") => `(tactic| first
  | with_reducible refine' g_sdput ?_
  | ((with_reducible refine' g_gtup ?hs ?hl ?_); (case hs => walk_at "lk"); (case hl => rfl))
  | with_reducible refine' g_gcons ?_
  | with_reducible refine' g_gnil ?_
  | with_reducible refine' And.intro (Eq.refl V.non) ?_
  | with_reducible refine' g_isN ?_
  | ((with_reducible refine' g_chainR ?ha ?hb ?hc ?_); (case ha => intro R q; walk_at "g"; exact q); (case hb => intro R q; walk_at "g"; exact q); (case hc => intro R q; walk_at "g"; exact q))
  | with_reducible refine' g_notN ?_)
/-- what the law's dict tells -/
local macro_rules | `(tactic| walk_at "dg") => `(tactic| first
  | assumption
  | exact LH.gfuns (by assumption)
  | exact LH.gsaid (by assumption)
  | exact LH.gcells (by assumption)
  | exact LH.gfuel (by assumption)
  | exact LH.gend (by assumption)
  | exact LH.gcalls (by assumption)
  | exact LH.gnames (by assumption)
  | exact LH.gwaits (by assumption)
  | exact LH.gworth (by assumption)
  | exact LH.glook (by assumption))
/-- a test that fails, that holds, by itself -/
local macro_rules | `(tactic| walk_at "no") => `(tactic| ((refine tkF rfl ?_); walk_at "g"))
local macro_rules | `(tactic| walk_at "yes") => `(tactic| ((refine tkT rfl ?_); walk_at "g"))
local macro_rules | `(tactic| walk_at "g1") => `(tactic| first
  | with_reducible refine' g_catS ?_
  | with_reducible refine' g_mulS ?_
  | with_reducible refine' g_rev ?_)
/-! ### the looks at a thing -/
def spParamsOf (K : PySem.W.Frag) : Sp := fun vs H Q _ => ∃ v f, vs = [v] ∧ Rep K H v (encF f) ∧ Q (.int (f.ps : Nat)) H
theorem fn_params_of (C : Cn w K mg base) : Fn P w K mg base CX0 2 "params_of" ["fun"] (spParamsOf K) := C.f_params_of fun fd F => by
  have F_is_number : Fn P w K mg base CX0 1 "is_number" ["thing"] (spIsNum K) := fn_is_number C
  refine F.ok (CX := CX0) sc_params_of (fun vs H Q E h => ?_) (fun cdv A outer s H vs Q E hr h => ?_)
  · obtain ⟨v, f, rfl, _⟩ := h
    rfl
  · obtain ⟨v, f, rfl, rep, q⟩ := h
    refine ⟨_, PSs.nox (Evl.pss_cut (ps_if (PW.pt (pw_or (pt_not (pt_val (pe_callB call_isi (by rfl) (C.m_isinstance) (by decide +kernel) (pa_cons (pv 0) (pa_cons (pe_bty "tuple" (by rfl) (C.m_tuple) (by decide +kernel)) pa_nil))))) (pw_or (pt_cmpR op_ne (pe_callB call_len_seq (by rfl) (C.m_len) PySem.boot_len (pa_cons (pv 0) pa_nil)) pe_int (nomark _)) (pw_or1 (pt_not (pt_val (pe_fn F_is_number (rmm hr) (by rfl) pass0 (pa_cons (pe_ix ix_tup (pv 0) pe_int (fun _ _ => rfl)) pa_nil)))))))) (pss_one (ps_ret pe_non)) pss_nil)
      (pss_one (ps_ret (pe_ix ix_tup (pv 0) pe_int (fun _ _ => rfl))))), ?_⟩
    have ty := rep.ty
    obtain ⟨ga, gvs, rfl, hga, rgs⟩ := rep.tupI
    obtain ⟨g0, gr, rfl, r0, rgs⟩ := rgs.consI
    obtain ⟨g1, gr, rfl, r1, rgs⟩ := rgs.consI
    obtain ⟨g2, gr, rfl, r2, rgs⟩ := rgs.consI
    obtain rfl := rgs.nilI
    obtain rfl := r0.intI
    walk_at "go"
    refine g_cut (Mid := fun σ' H' => σ' = L2.start ["fun"] [.ref ga] ∧ H' = H) ?_ ?_
    · walk_at "g"
      refine g_isi ty (kit_tuple (encF f)) ?_
      walk_at "g"
      walk_at "no"
      walk_at "no"
      refine ⟨_, .int (f.ps : Nat), rfl, .int _, ?_⟩
      walk_at "g"
      walk_at "no"
      exact ⟨rfl, rfl⟩
    · rintro _ _ ⟨rfl, rfl⟩
      walk_at "g"
      exact q
def spTakes (K : PySem.W.Frag) : Sp := fun vs H Q _ => ∃ f m pl, ∃ ps : List Nat, vs = [.int (f : Nat), .int (m : Nat), .ref pl] ∧ H pl = some (.lst (ps.map fun n => V.int (n : Nat))) ∧ ps[f]? = some m ∧ Q (.bl true) H
theorem fn_takes (C : Cn w K mg base) : Fn P w K mg base CX0 1 "takes" ["fun", "many", "params"] (spTakes K) := C.f_takes fun fd F => by
  refine F.ok (CX := CX0) sc_takes (fun vs H Q E h => ?_) (fun cdv A outer s H vs Q E hr h => ?_)
  · obtain ⟨f, m, pl, ps, rfl, _⟩ := h
    rfl
  · obtain ⟨f, m, pl, ps, rfl, hpl, hf, q⟩ := h
    refine ⟨_, PSs.nox (pss_cons (ps_if (pt_cmpR op_isN (pe_ix ix_list (pv 2) (pv 0) (fun _ _ => rfl)) pe_non (nomark _)) (pss_one (ps_ret (pe_cmpR op_le (pv 1) (pe_iglob (by rfl) C.i_MOST_PARAMS) (nomark _)))) pss_nil)
      (pss_one (ps_ret (pe_cmpR op_eq (pe_ix ix_list (pv 2) (pv 0) (fun _ _ => rfl)) (pv 1) (nomark _))))), ?_⟩
    have hat : atI (ps.map fun n => V.int (n : Nat)) ((f : Nat) : Int) = some (.int (m : Nat)) := atI_nat (by rw [List.getElem?_map, hf]; rfl)
    walk_at "go"
    walk_at "no"
    rw [show decide (V.int (m : Nat) = V.int (m : Nat)) = true from decide_eq_true rfl]
    exact q
def spBound (K : PySem.W.Frag) : Sp := fun vs H Q _ => ∃ a r x : Int, vs = [.int a, .int r, .int x] ∧ a < 200 ∧ r ≤ 7 ∧ x ≤ 40 ∧ Q (.str "") H
theorem fn_bound (C : Cn w K mg base) : Fn P w K mg base CX0 1 "bound_flaw" ["at", "around", "wide"] (spBound K) := C.f_bound_flaw fun fd F => by
  refine F.ok (CX := CX0) sc_bound_flaw (fun vs H Q E h => ?_) (fun cdv A outer s H vs Q E hr h => ?_)
  · obtain ⟨a, r, x, rfl, _⟩ := h
    rfl
  · obtain ⟨a, r, x, rfl, h1, h2, h3, q⟩ := h
    refine ⟨_, PSs.nox (pss_cons (ps_if (pt_cmpR op_ge (pv 0) (pe_iglob (by rfl) C.i_MOST_THINGS) (nomark _)) (pss_one (ps_ret pe_str)) pss_nil)
      (pss_cons (ps_if (pt_cmpR op_gt (pv 1) (pe_iglob (by rfl) C.i_MOST_DEEDS_AROUND) (nomark _)) (pss_one (ps_ret pe_str)) pss_nil)
      (pss_cons (ps_if (pt_cmpR op_gt (pv 2) (pe_iglob (by rfl) C.i_MOST_PARTS) (nomark _)) (pss_one (ps_ret pe_str)) pss_nil)
      (pss_one (ps_ret pe_str))))), ?_⟩
    walk_at "go"
    refine tkF (decide_eq_false (by omega)) ?_
    walk_at "g"
    refine tkF (decide_eq_false (by omega)) ?_
    walk_at "g"
    refine tkF (decide_eq_false (by omega)) ?_
    walk_at "g"
    exact q
/-- what may stand at a place -/
def okAt (nm : Nat) (n : Nat) (s : Str) (t : T) : Prop :=
  (s = "n" → ∃ z, t = .int z ∧ -1000000 ≤ z ∧ z ≤ 1000000) ∧ (s = "name" → ∃ z : Nat, t = .int z ∧ z < nm) ∧ (s = "fun" → ∃ z : Nat, t = .int z ∧ z < n) ∧ ((s = "body" ∨ s = "parts") → ∃ ts, t = .tup ts) ∧ (s = "n" ∨ s = "name" ∨ s = "fun" ∨ s = "body" ∨ s = "parts" ∨ s = "part")
/-- a thing's own numbers -/
def ownOk (nm : Nat) (ps : List Nat) : Th → Prop
  | .p (.num n) => -1000000 ≤ n ∧ n ≤ 1000000
  | .p (.name i) => i < nm
  | .p (.call f qs) => ps[f]? = some qs.length
  | .d (.set i _) => i < nm
  | _ => True
theorem ok_at {nm : Nat} {ps : List Nat} {t : Th} (h : ownOk nm ps t) {i : Nat} {s : Str} {u : T} (hs : (plT t)[i]? = some s) (hu : (restT t)[i]? = some u) : okAt nm ps.length s u := by
  have hp : ∀ u, okAt nm ps.length "part" u := fun u => ⟨fun z => absurd z (by decide +kernel), fun z => absurd z (by decide +kernel), fun z => absurd z (by decide +kernel), fun z => z.elim (fun z => absurd z (by decide +kernel)) (fun z => absurd z (by decide +kernel)), by simp⟩
  have hb : ∀ ts, okAt nm ps.length "body" (.tup ts) := fun ts => ⟨fun z => absurd z (by decide +kernel), fun z => absurd z (by decide +kernel), fun z => absurd z (by decide +kernel), fun _ => ⟨ts, rfl⟩, by simp⟩
  have hq : ∀ ts, okAt nm ps.length "parts" (.tup ts) := fun ts => ⟨fun z => absurd z (by decide +kernel), fun z => absurd z (by decide +kernel), fun z => absurd z (by decide +kernel), fun _ => ⟨ts, rfl⟩, by simp⟩
  have hn : ∀ z : Int, -1000000 ≤ z → z ≤ 1000000 → okAt nm ps.length "n" (.int z) := fun z a b => ⟨fun _ => ⟨z, rfl, a, b⟩, fun z => absurd z (by decide +kernel), fun z => absurd z (by decide +kernel), fun z => z.elim (fun z => absurd z (by decide +kernel)) (fun z => absurd z (by decide +kernel)), by simp⟩
  have hm : ∀ z : Nat, z < nm → okAt nm ps.length "name" (.int z) := fun z a => ⟨fun z => absurd z (by decide +kernel), fun _ => ⟨z, rfl, a⟩, fun z => absurd z (by decide +kernel), fun z => z.elim (fun z => absurd z (by decide +kernel)) (fun z => absurd z (by decide +kernel)), by simp⟩
  have hf : ∀ z : Nat, z < ps.length → okAt nm ps.length "fun" (.int z) := fun z a => ⟨fun z => absurd z (by decide +kernel), fun z => absurd z (by decide +kernel), fun _ => ⟨z, rfl, a⟩, fun z => z.elim (fun z => absurd z (by decide +kernel)) (fun z => absurd z (by decide +kernel)), by simp⟩
  have hlt : ∀ {f : Nat} {n : Nat}, ps[f]? = some n → f < ps.length := fun h => (List.getElem?_eq_some_iff.mp h).1
  match i with
  | 0 =>
    cases t with
    | p p => cases p with
      | num n => cases hs; cases hu; exact hn _ h.1 h.2
      | name n => cases hs; cases hu; exact hm _ h
      | call f qs => cases hs; cases hu; exact hf _ (hlt h)
      | _ => cases hs; cases hu; exact hp _
    | d d => cases d with
      | set i p => cases hs; cases hu; exact hm _ h
      | _ => cases hs; cases hu; exact hp _
  | 1 =>
    cases t with
    | p p => cases p with
      | bin op a b => cases hs; cases hu; exact hp _
      | call f qs => cases hs; cases hu; exact hq _
      | _ => cases hs
    | d d => cases d with
      | set i p => cases hs; cases hu; exact hp _
      | put i p => cases hs; cases hu; exact hp _
      | ite p a b => cases hs; cases hu; exact hb _
      | whl p a => cases hs; cases hu; exact hb _
      | _ => cases hs
  | 2 =>
    cases t with
    | p p => cases p <;> cases hs
    | d d => cases d with
      | ite p a b => cases hs; cases hu; exact hb _
      | _ => cases hs
  | n + 3 =>
    have h1 := (List.getElem?_eq_some_iff.mp hs).1
    have h2 := plT_le t
    omega
end
end K3
end

section
set_option maxRecDepth 100000
set_option maxHeartbeats 1000000
open Bq L2
/-- one step of a reading; what is left are side goals and places to think -/
local macro_rules | `(tactic| walk_at "g1") => `(tactic| first
  | with_reducible refine' g_seq ?_ | with_reducible refine' g_asg ?_ | with_reducible refine' g_drop ?_ | with_reducible refine' g_ret ?_ | with_reducible refine' g_ifS ?_ | with_reducible refine' g_asgG ?_
  | ((with_reducible refine' g_var ?hv ?_); (case hv => rfl))
  | with_reducible refine' g_c ?_ | with_reducible refine' g_op ?_ | with_reducible refine' g_un ?_ | with_reducible refine' g_I0 ?_ | with_reducible refine' g_U ?_
  | with_reducible refine' g_test ?_ | with_reducible refine' g_tB ?_ | with_reducible refine Exists.intro _ (And.intro rfl ?_) 
  | ((with_reducible refine' g_andP ?ha ?hb ?_); (case ha => intro R q; walk_at "g"; exact q); (case hb => intro R q; walk_at "g"; exact q))
  | ((with_reducible refine' g_orP ?ha ?hb ?_); (case ha => intro R q; walk_at "g"; exact q); (case hb => intro R q; walk_at "g"; exact q))
  | with_reducible refine' g_and ?_ | with_reducible refine' g_or ?_ | with_reducible refine' g_not ?_
  | with_reducible refine' g_andV ?_ | with_reducible refine' g_orV ?_ | with_reducible refine' g_notV ?_ | with_reducible refine' g_if ?_ | with_reducible refine' g_nil ?_ | with_reducible refine' g_cons ?_
  | with_reducible refine' g_tup ?_ | with_reducible refine' g_lst ?_ | with_reducible refine' g_CB ?_ | with_reducible refine' g_Fn ?_ | with_reducible refine' g_next ?_ | with_reducible refine' g_retN ?_
  | with_reducible refine' g_name ?_ | with_reducible refine' g_sub ?_
  | ((with_reducible refine' g_ixL ?hs ?he ?_); (case hs => walk_at "lk"); (case he => walk_at "at"))
  | ((with_reducible refine' g_ixT ?hs ?he ?_); (case hs => walk_at "lk"); (case he => walk_at "at"))
  | ((with_reducible refine' g_setL ?hs ?he ?_); (case hs => walk_at "hp"); (case he => rfl))
  | ((with_reducible refine' g_app ?hs ?hz ?_); (case hs => walk_at "hp"); (case hz => walk_at "sz"))
  | ((with_reducible refine' ⟨_, _, rfl, Or.inl ?hs, ?_⟩); (case hs => walk_at "lk"))
  | ((with_reducible refine' ⟨_, _, rfl, Or.inr ?hs, ?_⟩); (case hs => walk_at "lk"))
  | with_reducible refine' g_BM ?_ | with_reducible refine' g_BM0 ?_ | ((with_reducible refine' g_tyL ?hs ?_); (case hs => walk_at "lk"))
  | with_reducible refine' g_sl ?_ | with_reducible refine' g_noPart ?_ | with_reducible refine' g_part ?_
  | ((with_reducible refine' g_inT ?hs ?fx ?fs ?_); (case hs => walk_at "lk"); (case fx => rfl); (case fs => rfl))
  | with_reducible refine' g_pair ?_ | with_reducible refine' g_pair0 ?_ | with_reducible refine' g_disp ?_
  | with_reducible refine' g_for ?_ | with_reducible refine' g_tupC ?_ | with_reducible refine' g_lstC ?_ | ((with_reducible refine' g_lens ?_)) | with_reducible refine' g_dg ?_ | with_reducible refine' g_lc ?_ | with_reducible refine' g_rng1 ?_ | with_reducible refine' g_ilist ?_ | with_reducible refine' g_itup ?_
  | ((with_reducible refine' ⟨_, _, rfl, ?hd, ?_⟩); (case hd => walk_at "dg"))
  | ((with_reducible refine' g_eqNil ?hs ?hz ?_); (case hs => walk_at "lk"); (case hz => walk_at "lk"))
  | ((with_reducible refine' g_neNil ?hs ?hz ?_); (case hs => walk_at "lk"); (case hz => walk_at "lk"))
  | with_reducible refine Or.inl ⟨_, rfl, ?_⟩
  | with_reducible refine Or.inr ⟨_, rfl, ?_⟩
  | ((with_reducible refine' g_eq ?hs ?_); (case hs => rfl))
  | ((with_reducible refine' g_ne ?hs ?_); (case hs => rfl))
  | ((with_reducible refine' g_I ?hc ?_); (case hc => walk_at "ar")))
/-- arithmetic's side conditions -/
local macro_rules | `(tactic| walk_at "ar") => `(tactic| (first
  | (show (0 : Int) < _; first | omega | decide) | (show (0 : Int) < _ ∧ _; constructor <;> omega) | (show ¬ (_ : Int) = _; omega) | (show (_ : Int) ≠ _ ∧ _; constructor <;> omega)
  | (show (-(2 ^ 64) < _ ∧ _) ∨ _; (first | (left; constructor <;> omega) | (right; constructor <;> omega))) | (show (0 : Int) ≤ _ ∧ _ ∧ _; refine ⟨by omega, by omega, by decide⟩)))
/-- what stands at an index -/
local macro_rules | `(tactic| walk_at "at") => `(tactic| first | rfl | assumption)
/-- what stands at an address -/
local macro_rules | `(tactic| walk_at "hp") => `(tactic| first | assumption | exact upd_same | ((refine' Eq.trans (upd_ne ?hn) ?hm); (case hm => walk_at "hp"); (case hn => walk_at "ne")))
/-- two places are two -/
local macro_rules | `(tactic| walk_at "ne") => `(tactic| first
  | assumption | exact Ne.symm (by assumption)
  | ((refine' ne_of_none ?ha ?hb); (case hb => assumption); (case ha => walk_at "hp")) | ((refine' Ne.symm (ne_of_none ?ha ?hb)); (case hb => assumption); (case ha => walk_at "hp")))
/-- what a dict tells -/
local macro_rules | `(tactic| walk_at "dg") => `(tactic| first | assumption)
/-- a length -/
local macro_rules | `(tactic| walk_at "sz") => `(tactic| first | (show _ ≤ sizeLine; decide) | (show _ < sizeLine; decide) | assumption | exact szlt (by simp) | exact szle (by simp))
/-- a list or tuple that stands -/
local macro_rules | `(tactic| walk_at "lk") => `(tactic| first | assumption | exact SqL.of (by assumption) | exact SqT.of (by assumption) | exact SqL.of upd_same | exact SqT.of upd_same | (refine' FzL.sq ?hm; (case hm => walk_at "fz")))
/-- a list that nobody writes -/
local macro_rules | `(tactic| walk_at "fz") => `(tactic| first | assumption | ((refine' FzL.uw ?hm ?hx); (case hx => walk_at "hp"); (case hm => walk_at "fz")) | ((refine' FzL.nw ?hm ?hx); (case hx => assumption); (case hm => walk_at "fz")))
/-- as far as it goes by itself -/
local macro_rules | `(tactic| walk_at "g") => `(tactic| repeat walk_at "g1")
/-- the body's reading, its places in short -/
local macro_rules | `(tactic| walk_at "go") => `(tactic| ((try dsimp only [cxOf, Cx.nox, Cx.wish]); walk_at "g"))
namespace K3
open PySem PySem.Spec PyProof.Rows L2 Bq
section
variable {P : Program} {w : World} {K : PySem.W.Frag} {mg : Str → Option Value} {base : Heap}
/-- further steps: dicts written, tuples taken apart -/
local macro_rules | `(tactic| walk_at "g1") => `(tactic| first
  | with_reducible refine' g_sdput ?_
  | ((with_reducible refine' g_gtup ?hs ?hl ?_); (case hs => walk_at "lk"); (case hl => rfl))
  | with_reducible refine' g_gcons ?_
  | with_reducible refine' g_gnil ?_
  | with_reducible refine' And.intro (Eq.refl V.non) ?_
  | with_reducible refine' g_isN ?_
  | ((with_reducible refine' g_chainR ?ha ?hb ?hc ?_); (case ha => intro R q; walk_at "g"; exact q); (case hb => intro R q; walk_at "g"; exact q); (case hc => intro R q; walk_at "g"; exact q))
  | with_reducible refine' g_notN ?_)
/-- what the law's dict tells -/
local macro_rules | `(tactic| walk_at "dg") => `(tactic| first
  | assumption
  | exact LH.gfuns (by assumption)
  | exact LH.gsaid (by assumption)
  | exact LH.gcells (by assumption)
  | exact LH.gfuel (by assumption)
  | exact LH.gend (by assumption)
  | exact LH.gcalls (by assumption)
  | exact LH.gnames (by assumption)
  | exact LH.gwaits (by assumption)
  | exact LH.gworth (by assumption)
  | exact LH.glook (by assumption))
/-- a test that fails, that holds, by itself -/
local macro_rules | `(tactic| walk_at "no") => `(tactic| ((refine tkF rfl ?_); walk_at "g"))
local macro_rules | `(tactic| walk_at "yes") => `(tactic| ((refine tkT rfl ?_); walk_at "g"))
local macro_rules | `(tactic| walk_at "g1") => `(tactic| first
  | with_reducible refine' g_catS ?_
  | with_reducible refine' g_mulS ?_
  | with_reducible refine' g_rev ?_)
def isP : Th → Bool
  | .p _ => true
  | .d _ => false
def spShape (K : PySem.W.Frag) : Sp := fun vs H Q _ => ∃ v t nm ps, ∃ r : Int, vs = [v, .int r] ∧ Rep K H v (encT t) ∧ ownOk nm ps t ∧ (isP t = true → r = -1) ∧ (isP t = false → 0 ≤ r) ∧ ∀ H', Ch K [] H H' → Q (.str "") H'
theorem fn_shape (C : Cn w K mg base) : Fn P w K mg base CX0 2 "shape_flaw" ["thing", "around"] (spShape K) := C.f_shape_flaw fun fd F => by
  have F_is_number : Fn P w K mg base CX0 1 "is_number" ["thing"] (spIsNum K) := fn_is_number C
  have F_places_behind : Fn P w K mg base CX0 1 "places_behind" ["word"] (spPlaces K) := fn_places C
  refine F.ok (CX := CX0) sc_shape_flaw (fun vs H Q E h => ?_) (fun cdv A outer s H vs Q E hr h => ?_)
  · obtain ⟨v, t, nm, ps, r, rfl, _⟩ := h
    rfl
  · obtain ⟨v, t, nm, ps, r, rfl, rep0, own, hp, hd, q⟩ := h
    refine ⟨_, PSs.nox (pss_cons (ps_if (pt_mid (PW.pt (pw_or (pt_not (pt_val (pe_callB call_isi (by rfl) (C.m_isinstance) (by decide +kernel) (pa_cons (pv 0) (pa_cons (pe_bty "tuple" (by rfl) (C.m_tuple) (by decide +kernel)) pa_nil))))) (pw_or (pt_cmpR op_eq (pe_callB call_len_seq (by rfl) (C.m_len) PySem.boot_len (pa_cons (pv 0) pa_nil)) pe_int (nomark _)) (pw_or1 (pt_not (pt_val (pe_callB call_isi (by rfl) (C.m_isinstance) (by decide +kernel) (pa_cons (pe_ix ix_tup (pv 0) pe_int (fun _ _ => rfl)) (pa_cons (pe_bty "str" (by rfl) (C.m_str) (by decide +kernel)) pa_nil)))))))))) (pss_one (ps_ret pe_str)) pss_nil)
      (pss_cons (ps_set (i := 2) sc_shape_flaw.nd rfl (Or.inl rfl) (pe_mid (pe_ifExp (pt_cmpR op_eq (pv 1) (pe_iglob (by rfl) C.i_A_PART) (nomark _)) (pe_cmpR (op_in_mod C.k_PARTS) (pe_ix ix_tup (pv 0) pe_int (fun _ _ => rfl)) (pe_glob (v := .ref _) (by rfl) C.g_PARTS rfl) (by rfl)) (pe_cmpR (op_in_mod C.k_DEEDS) (pe_ix ix_tup (pv 0) pe_int (fun _ _ => rfl)) (pe_glob (v := .ref _) (by rfl) C.g_DEEDS rfl) (by rfl)))))
      (Evl.pss_cut (ps_if (PW.pt (pw_or (pt_not (pt_val (pv 2))) (pw_or1 (pt_cmpR op_ne (pe_callB call_len_seq (by rfl) (C.m_len) PySem.boot_len (pa_cons (pv 0) pa_nil)) (pe_op op_add (pe_callB call_len_seq (by rfl) (C.m_len) PySem.boot_len (pa_cons (pe_fn F_places_behind (rmm hr) (by rfl) pass0 (pa_cons (pe_ix ix_tup (pv 0) pe_int (fun _ _ => rfl)) pa_nil)) pa_nil)) pe_int) (nomark _))))) (pss_one (ps_ret pe_str)) pss_nil)
      (pss_cons (ps_for PassesOwn.never rfl (RZ.pi_zipA (by rfl) (C.m_zip) (pa_cons (pe_fn F_places_behind (rmm hr) (by rfl) pass0 (pa_cons (pe_ix ix_tup (pv 0) pe_int (fun _ _ => rfl)) pa_nil)) (pa_cons (pe_slice sl_tupR (pv 0) (po_some pe_int) po_none) pa_nil))) (pg_tup rfl (pgs_cons (pg_name (i := 3) sc_shape_flaw.nd rfl (Or.inl rfl)) (pgs_cons (pg_name (i := 4) sc_shape_flaw.nd rfl (Or.inl rfl)) pgs_nil))) (Evl.pss_cut (ps_if (PW.pt (pw_and (pt_cmpR op_in_seq (pv 3) (pe_glob (v := .ref _) (by rfl) C.g_NUMBER_PLACES rfl) (by rfl)) (pw_and1 (pt_not (pt_val (pe_fn F_is_number (rmm hr) (by rfl) pass0 (pa_cons (pv 4) pa_nil))))))) (pss_one (ps_ret pe_str)) pss_nil)
      (pss_one (ps_if (pt_mid (PW.pt (pw_and (pt_cmpR op_in_seq (pv 3) (pe_glob (v := .ref _) (by rfl) C.g_TUPLE_PLACES rfl) (by rfl)) (pw_and1 (pt_not (pt_val (pe_callB call_isi (by rfl) (C.m_isinstance) (by decide +kernel) (pa_cons (pv 4) (pa_cons (pe_bty "tuple" (by rfl) (C.m_tuple) (by decide +kernel)) pa_nil))))))))) (pss_one (ps_ret pe_str)) pss_nil))))
      (pss_one (ps_ret pe_str)))))), ?_⟩
    have ty := rep0.ty
    have rep := rep0
    rw [encT_eq] at rep
    have tdt := deeds_tab C t
    have tpt := parts_tab C t
    obtain ⟨a, us, rfl, hS, rs⟩ := thing1 rep0
    have h0 := atI_nat (j := 0) (List.getElem?_cons_zero (a := V.str (wdT t)) (l := us))
    have tyw : TyX K H (.str (wdT t)) (.type "str") := Rep.ty (.str (wdT t))
    walk_at "go"
    refine g_mid (fun b H' => b = false ∧ H' = H) ?_ ?_
    · walk_at "g"
      refine g_isi ty (by rw [encT_eq]; exact kit_tuple (.tup _)) ?_
      walk_at "g"
      walk_at "no"
      refine tkF (decide_eq_false (fun z => by simp only [V.int.injEq, List.length_cons] at z; omega)) ?_
      walk_at "g"
      refine g_isi tyw (kit_str (.str (wdT t))) ?_
      walk_at "g"
      exact ⟨rfl, rfl⟩
    · rintro _ H1 ⟨rfl, e1⟩
      rw [e1]
      walk_at "no"
      refine g_midE (fun v' H' => v' = .bl true ∧ H' = H) ?_ ?_
      · walk_at "g"
        cases t with
        | p p =>
          obtain ⟨ta, hta, _⟩ := tpt
          rw [hp rfl]
          walk_at "yes"
          exact ⟨_, _, rfl, rfl, hta, rfl, rfl⟩
        | d d =>
          obtain ⟨ta, hta, _⟩ := tdt
          have := hd rfl
          refine tkF (decide_eq_false (fun z => by simp only [V.int.injEq] at z; omega)) ?_
          walk_at "g"
          exact ⟨_, _, rfl, rfl, hta, rfl, rfl⟩
      · rintro _ H2 ⟨rfl, e2⟩
        rw [e2]
        clear e1 e2 H1 H2
        walk_at "g"
        refine g_cut (Mid := fun σ' H' => σ' = [some (.ref a), some (.int r), some (.bl true), none, none] ∧ H' = H) ?_ ?_
        · walk_at "g"
          walk_at "no"
          refine ⟨t, rfl, fun pa hpl => ?_⟩
          have hpl' := hpl H
          walk_at "g"
          have e3 : (V.str (wdT t) :: us).length = ((plT t).map V.str).length + 1 := by rw [List.length_cons, List.length_map, plT_len, rs.len]
          refine tkF ?_ ?_
          · rw [e3]
            simp
          · walk_at "g"
            exact ⟨rfl, rfl⟩
        · rintro _ _ ⟨rfl, rfl⟩
          walk_at "g"
          refine g_zipA ?_
          walk_at "g"
          refine ⟨t, rfl, fun pa hpl => ?_⟩
          walk_at "g"
          refine ⟨_, rep, fun v1 H1 c1 r1 => ?_⟩
          rw [show (some (1 : Int)) = some ((1 : Nat) : Int) from rfl, cutT_from] at r1
          obtain ⟨b, ub, rfl, hb, rb⟩ := r1.tupI
          walk_at "g"
          refine ⟨pa, b, _, _, rfl, .inr ⟨hpl H1, hb, ?_⟩⟩
          have rb' : Reps K H1 ub (restT t) := rb
          have ll : ((plT t).map V.str).length = ub.length := by rw [List.length_map, plT_len, rb'.len]
          refine RZ.for_zipT ll (fun i σ H' => ∃ x y, σ = [some (.ref a), some (.int r), some (.bl true), x, y] ∧ Ch K [] H1 H') ⟨none, none, rfl, Ch.refl⟩ (fun i σ H' ⟨_, _, _, c⟩ => ⟨hpl H', c.sqT hb⟩) ?_ ?_
          · rintro i x y T σ H2 hx hy ⟨x3, x4, rfl, c2⟩ nT
            rw [List.getElem?_map] at hx
            cases es : (plT t)[i]? with
            | none => rw [es] at hx; cases hx
            | some s =>
              rw [es] at hx
              obtain rfl : V.str s = x := Option.some.inj hx
              obtain ⟨ty, ety, ry⟩ := rb'.get hy
              obtain ⟨o1, o2, o3, o4, o5⟩ := ok_at own es ety
              have cT : Ch K [] H2 (upd H2 T (.tup [.str s, y])) := Ch.new nT
              have eT : (upd H2 T (.tup [.str s, y])) T = some (.tup [.str s, y]) := upd_same
              generalize upd H2 T (.tup [.str s, y]) = H3 at cT eT ⊢
              have ry3 := ry.kt (c2.trans cT).kt
              have hNP := C.t_NUMBER_PLACES H3
              have hTP := C.t_TUPLE_PLACES H3
              walk_at "g"
              refine g_cut (Mid := fun σ' H' => σ' = [some (.ref a), some (.int r), some (.bl true), some (.str s), some y] ∧ H' = H3) ?_ ?_
              · walk_at "g"
                refine iteB (fun hc => ?_) (fun hc => ?_)
                · have hi : ∃ z, ty = .int z := by
                    have : s = "n" ∨ s = "name" ∨ s = "fun" := by
                      rcases o5 with h | h | h | h | h | h
                      · exact .inl h
                      · exact .inr (.inl h)
                      · exact .inr (.inr h)
                      · subst h; cases hc
                      · subst h; cases hc
                      · subst h; cases hc
                    rcases this with h | h | h
                    · obtain ⟨z, e, _⟩ := o1 h; exact ⟨z, e⟩
                    · obtain ⟨z, e, _⟩ := o2 h; exact ⟨_, e⟩
                    · obtain ⟨z, e, _⟩ := o3 h; exact ⟨_, e⟩
                  obtain ⟨z, rfl⟩ := hi
                  walk_at "g"
                  refine ⟨y, .int z, rfl, ry3, ?_⟩
                  walk_at "g"
                  walk_at "no"
                  exact ⟨rfl, rfl⟩
                · walk_at "no"
                  exact ⟨rfl, rfl⟩
              · rintro _ H4 ⟨rfl, e4⟩
                rw [e4]
                clear e4 H4
                walk_at "g"
                refine g_mid (fun b H' => b = false ∧ H' = H3) ?_ ?_
                · walk_at "g"
                  refine iteB (fun hc => ?_) (fun hc => ?_)
                  · have hi : ∃ ts, ty = .tup ts := by
                      refine o4 ?_
                      rcases o5 with h | h | h | h | h | h
                      · subst h; cases hc
                      · subst h; cases hc
                      · subst h; cases hc
                      · exact .inl h
                      · exact .inr h
                      · subst h; cases hc
                    obtain ⟨ts, rfl⟩ := hi
                    walk_at "g"
                    refine g_isi ry3.ty (kit_tuple (.tup ts)) ?_
                    walk_at "g"
                    exact ⟨rfl, rfl⟩
                  · exact ⟨rfl, rfl⟩
                · rintro _ H4 ⟨rfl, e4⟩
                  rw [e4]
                  walk_at "no"
                  exact ⟨_, _, rfl, c2.trans cT⟩
          · rintro σ H2 ⟨x3, x4, rfl, c2⟩
            walk_at "g"
            exact q H2 (c1.trans c2)
end
end K3
end

section
set_option maxRecDepth 100000
set_option maxHeartbeats 1000000
open Bq L2
/-- one step of a reading; what is left are side goals and places to think -/
local macro_rules | `(tactic| walk_at "g1") => `(tactic| first
  | with_reducible refine' g_seq ?_ | with_reducible refine' g_asg ?_ | with_reducible refine' g_drop ?_ | with_reducible refine' g_ret ?_ | with_reducible refine' g_ifS ?_ | with_reducible refine' g_asgG ?_
  | ((with_reducible refine' g_var ?hv ?_); (case hv => rfl))
  | with_reducible refine' g_c ?_ | with_reducible refine' g_op ?_ | with_reducible refine' g_un ?_ | with_reducible refine' g_I0 ?_ | with_reducible refine' g_U ?_
  | with_reducible refine' g_test ?_ | with_reducible refine' g_tB ?_ | with_reducible refine Exists.intro _ (And.intro rfl ?_) 
  | ((with_reducible refine' g_andP ?ha ?hb ?_); (case ha => intro R q; walk_at "g"; exact q); (case hb => intro R q; walk_at "g"; exact q))
  | ((with_reducible refine' g_orP ?ha ?hb ?_); (case ha => intro R q; walk_at "g"; exact q); (case hb => intro R q; walk_at "g"; exact q))
  | with_reducible refine' g_and ?_ | with_reducible refine' g_or ?_ | with_reducible refine' g_not ?_
  | with_reducible refine' g_andV ?_ | with_reducible refine' g_orV ?_ | with_reducible refine' g_notV ?_ | with_reducible refine' g_if ?_ | with_reducible refine' g_nil ?_ | with_reducible refine' g_cons ?_
  | with_reducible refine' g_tup ?_ | with_reducible refine' g_lst ?_ | with_reducible refine' g_CB ?_ | with_reducible refine' g_Fn ?_ | with_reducible refine' g_next ?_ | with_reducible refine' g_retN ?_
  | with_reducible refine' g_name ?_ | with_reducible refine' g_sub ?_
  | ((with_reducible refine' g_ixL ?hs ?he ?_); (case hs => walk_at "lk"); (case he => walk_at "at"))
  | ((with_reducible refine' g_ixT ?hs ?he ?_); (case hs => walk_at "lk"); (case he => walk_at "at"))
  | ((with_reducible refine' g_setL ?hs ?he ?_); (case hs => walk_at "hp"); (case he => rfl))
  | ((with_reducible refine' g_app ?hs ?hz ?_); (case hs => walk_at "hp"); (case hz => walk_at "sz"))
  | ((with_reducible refine' ⟨_, _, rfl, Or.inl ?hs, ?_⟩); (case hs => walk_at "lk"))
  | ((with_reducible refine' ⟨_, _, rfl, Or.inr ?hs, ?_⟩); (case hs => walk_at "lk"))
  | with_reducible refine' g_BM ?_ | with_reducible refine' g_BM0 ?_ | ((with_reducible refine' g_tyL ?hs ?_); (case hs => walk_at "lk"))
  | with_reducible refine' g_sl ?_ | with_reducible refine' g_noPart ?_ | with_reducible refine' g_part ?_
  | ((with_reducible refine' g_inT ?hs ?fx ?fs ?_); (case hs => walk_at "lk"); (case fx => rfl); (case fs => rfl))
  | with_reducible refine' g_pair ?_ | with_reducible refine' g_pair0 ?_ | with_reducible refine' g_disp ?_
  | with_reducible refine' g_for ?_ | with_reducible refine' g_tupC ?_ | with_reducible refine' g_lstC ?_ | ((with_reducible refine' g_lens ?_)) | with_reducible refine' g_dg ?_ | with_reducible refine' g_lc ?_ | with_reducible refine' g_rng1 ?_ | with_reducible refine' g_ilist ?_ | with_reducible refine' g_itup ?_
  | ((with_reducible refine' ⟨_, _, rfl, ?hd, ?_⟩); (case hd => walk_at "dg"))
  | ((with_reducible refine' g_eqNil ?hs ?hz ?_); (case hs => walk_at "lk"); (case hz => walk_at "lk"))
  | ((with_reducible refine' g_neNil ?hs ?hz ?_); (case hs => walk_at "lk"); (case hz => walk_at "lk"))
  | with_reducible refine Or.inl ⟨_, rfl, ?_⟩
  | with_reducible refine Or.inr ⟨_, rfl, ?_⟩
  | ((with_reducible refine' g_eq ?hs ?_); (case hs => rfl))
  | ((with_reducible refine' g_ne ?hs ?_); (case hs => rfl))
  | ((with_reducible refine' g_I ?hc ?_); (case hc => walk_at "ar")))
/-- arithmetic's side conditions -/
local macro_rules | `(tactic| walk_at "ar") => `(tactic| (first
  | (show (0 : Int) < _; first | omega | decide) | (show (0 : Int) < _ ∧ _; constructor <;> omega) | (show ¬ (_ : Int) = _; omega) | (show (_ : Int) ≠ _ ∧ _; constructor <;> omega)
  | (show (-(2 ^ 64) < _ ∧ _) ∨ _; (first | (left; constructor <;> omega) | (right; constructor <;> omega))) | (show (0 : Int) ≤ _ ∧ _ ∧ _; refine ⟨by omega, by omega, by decide⟩)))
/-- what stands at an index -/
local macro_rules | `(tactic| walk_at "at") => `(tactic| first | rfl | assumption)
/-- what stands at an address -/
local macro_rules | `(tactic| walk_at "hp") => `(tactic| first | assumption | exact upd_same | ((refine' Eq.trans (upd_ne ?hn) ?hm); (case hm => walk_at "hp"); (case hn => walk_at "ne")))
/-- two places are two -/
local macro_rules | `(tactic| walk_at "ne") => `(tactic| first
  | assumption | exact Ne.symm (by assumption)
  | ((refine' ne_of_none ?ha ?hb); (case hb => assumption); (case ha => walk_at "hp")) | ((refine' Ne.symm (ne_of_none ?ha ?hb)); (case hb => assumption); (case ha => walk_at "hp")))
/-- what a dict tells -/
local macro_rules | `(tactic| walk_at "dg") => `(tactic| first | assumption)
/-- a length -/
local macro_rules | `(tactic| walk_at "sz") => `(tactic| first | (show _ ≤ sizeLine; decide) | (show _ < sizeLine; decide) | assumption | exact szlt (by simp) | exact szle (by simp))
/-- a list or tuple that stands -/
local macro_rules | `(tactic| walk_at "lk") => `(tactic| first | assumption | exact SqL.of (by assumption) | exact SqT.of (by assumption) | exact SqL.of upd_same | exact SqT.of upd_same | (refine' FzL.sq ?hm; (case hm => walk_at "fz")))
/-- a list that nobody writes -/
local macro_rules | `(tactic| walk_at "fz") => `(tactic| first | assumption | ((refine' FzL.uw ?hm ?hx); (case hx => walk_at "hp"); (case hm => walk_at "fz")) | ((refine' FzL.nw ?hm ?hx); (case hx => assumption); (case hm => walk_at "fz")))
/-- as far as it goes by itself -/
local macro_rules | `(tactic| walk_at "g") => `(tactic| repeat walk_at "g1")
/-- the body's reading, its places in short -/
local macro_rules | `(tactic| walk_at "go") => `(tactic| ((try dsimp only [cxOf, Cx.nox, Cx.wish]); walk_at "g"))
namespace K3
open PySem PySem.Spec PyProof.Rows L2 Bq
section
variable {P : Program} {w : World} {K : PySem.W.Frag} {mg : Str → Option Value} {base : Heap}
/-- further steps: dicts written, tuples taken apart -/
local macro_rules | `(tactic| walk_at "g1") => `(tactic| first
  | with_reducible refine' g_sdput ?_
  | ((with_reducible refine' g_gtup ?hs ?hl ?_); (case hs => walk_at "lk"); (case hl => rfl))
  | with_reducible refine' g_gcons ?_
  | with_reducible refine' g_gnil ?_
  | with_reducible refine' And.intro (Eq.refl V.non) ?_
  | with_reducible refine' g_isN ?_
  | ((with_reducible refine' g_chainR ?ha ?hb ?hc ?_); (case ha => intro R q; walk_at "g"; exact q); (case hb => intro R q; walk_at "g"; exact q); (case hc => intro R q; walk_at "g"; exact q))
  | with_reducible refine' g_notN ?_)
/-- what the law's dict tells -/
local macro_rules | `(tactic| walk_at "dg") => `(tactic| first
  | assumption
  | exact LH.gfuns (by assumption)
  | exact LH.gsaid (by assumption)
  | exact LH.gcells (by assumption)
  | exact LH.gfuel (by assumption)
  | exact LH.gend (by assumption)
  | exact LH.gcalls (by assumption)
  | exact LH.gnames (by assumption)
  | exact LH.gwaits (by assumption)
  | exact LH.gworth (by assumption)
  | exact LH.glook (by assumption))
/-- a test that fails, that holds, by itself -/
local macro_rules | `(tactic| walk_at "no") => `(tactic| ((refine tkF rfl ?_); walk_at "g"))
local macro_rules | `(tactic| walk_at "yes") => `(tactic| ((refine tkT rfl ?_); walk_at "g"))
local macro_rules | `(tactic| walk_at "g1") => `(tactic| first
  | with_reducible refine' g_catS ?_
  | with_reducible refine' g_mulS ?_
  | with_reducible refine' g_rev ?_)
def spNumber (K : PySem.W.Frag) : Sp := fun vs H Q _ => ∃ v t nm pl, ∃ ps : List Nat, vs = [v, .int (nm : Nat), .ref pl] ∧ Rep K H v (encT t) ∧ H pl = some (.lst (ps.map fun n => V.int (n : Nat))) ∧ ownOk nm ps t ∧ ∀ H', Ch K [] H H' → Q (.str "") H'
theorem fn_number (C : Cn w K mg base) : Fn P w K mg base CX0 2 "number_flaw" ["thing", "names", "params"] (spNumber K) := C.f_number_flaw fun fd F => by
  have F_takes : Fn P w K mg base CX0 1 "takes" ["fun", "many", "params"] (spTakes K) := fn_takes C
  have F_places_behind : Fn P w K mg base CX0 1 "places_behind" ["word"] (spPlaces K) := fn_places C
  refine F.ok (CX := CX0) sc_number_flaw (fun vs H Q E h => ?_) (fun cdv A outer s H vs Q E hr h => ?_)
  · obtain ⟨v, t, nm, pl, ps, rfl, _⟩ := h
    rfl
  · obtain ⟨v, t, nm, pl, ps, rfl, rep0, hpl0, own, q⟩ := h
    refine ⟨_, PSs.nox (pss_cons (ps_for PassesOwn.never rfl (RZ.pi_zipA (by rfl) (C.m_zip) (pa_cons (pe_fn F_places_behind (rmm hr) (by rfl) pass0 (pa_cons (pe_ix ix_tup (pv 0) pe_int (fun _ _ => rfl)) pa_nil)) (pa_cons (pe_slice sl_tupR (pv 0) (po_some pe_int) po_none) pa_nil))) (pg_tup rfl (pgs_cons (pg_name (i := 3) sc_number_flaw.nd rfl (Or.inl rfl)) (pgs_cons (pg_name (i := 4) sc_number_flaw.nd rfl (Or.inl rfl)) pgs_nil))) (pss_cons (ps_if (pt_mid (PW.pt (pw_and (pt_cmpR op_eq (pv 3) pe_str (nomark _)) (pw_and1 (pt_cmpR op_gt (pe_callB call_abs (by rfl) (C.m_abs) (by decide +kernel) (pa_cons (pv 4) pa_nil)) (pe_iglob (by rfl) C.i_MOST_NUM) (nomark _)))))) (pss_one (ps_ret pe_str)) pss_nil)
      (pss_cons (ps_if (pt_mid (PW.pt (pw_and (pt_cmpR op_eq (pv 3) pe_str (nomark _)) (pw_and1 (pt_not (pt_chain op_le op_lt pe_int (pv 4) (pv 1))))))) (pss_one (ps_ret pe_str)) pss_nil)
      (pss_one (ps_if (pt_mid (PW.pt (pw_and (pt_cmpR op_eq (pv 3) pe_str (nomark _)) (pw_and1 (pt_not (pt_chain op_le op_lt pe_int (pv 4) (pe_callB call_len_seq (by rfl) (C.m_len) PySem.boot_len (pa_cons (pv 2) pa_nil)))))))) (pss_one (ps_ret pe_str)) pss_nil)))))
      (pss_cons (ps_if (pt_mid (PW.pt (pw_and (pt_cmpR op_eq (pe_ix ix_tup (pv 0) pe_int (fun _ _ => rfl)) pe_str (nomark _)) (pw_and1 (pt_not (pt_val (pe_fn F_takes (rmm hr) (by rfl) pass0 (pa_cons (pe_ix ix_tup (pv 0) pe_int (fun _ _ => rfl)) (pa_cons (pe_callB call_len_seq (by rfl) (C.m_len) PySem.boot_len (pa_cons (pe_ix ix_tup (pv 0) pe_int (fun _ _ => rfl)) pa_nil)) (pa_cons (pv 2) pa_nil)))))))))) (pss_one (ps_ret pe_str)) pss_nil)
      (pss_one (ps_ret pe_str)))), ?_⟩
    have rep := rep0
    rw [encT_eq] at rep
    obtain ⟨a, us, rfl, hS, rs⟩ := thing1 rep0
    have h0 := atI_nat (j := 0) (List.getElem?_cons_zero (a := V.str (wdT t)) (l := us))
    walk_at "go"
    refine g_zipA ?_
    walk_at "g"
    refine ⟨t, rfl, fun pa hpl => ?_⟩
    walk_at "g"
    refine ⟨_, rep, fun v1 H1 c1 r1 => ?_⟩
    rw [show (some (1 : Int)) = some ((1 : Nat) : Int) from rfl, cutT_from] at r1
    obtain ⟨b, ub, rfl, hb, rb⟩ := r1.tupI
    walk_at "g"
    refine ⟨pa, b, _, _, rfl, .inr ⟨hpl H1, hb, ?_⟩⟩
    have rb' : Reps K H1 ub (restT t) := rb
    have ll : ((plT t).map V.str).length = ub.length := by rw [List.length_map, plT_len, rb'.len]
    refine RZ.for_zipT ll (fun i σ H' => ∃ x y, σ = [some (.ref a), some (.int (nm : Nat)), some (.ref pl), x, y] ∧ Ch K [] H1 H') ⟨none, none, rfl, Ch.refl⟩ (fun i σ H' ⟨_, _, _, c⟩ => ⟨hpl H', c.sqT hb⟩) ?_ ?_
    · rintro i x y T σ H2 hx hy ⟨x3, x4, rfl, c2⟩ nT
      rw [List.getElem?_map] at hx
      cases es : (plT t)[i]? with
      | none => rw [es] at hx; cases hx
      | some s =>
        rw [es] at hx
        obtain rfl : V.str s = x := Option.some.inj hx
        obtain ⟨ty, ety, ry⟩ := rb'.get hy
        obtain ⟨o1, o2, o3, o4, o5⟩ := ok_at own es ety
        have cT : Ch K [] H2 (upd H2 T (.tup [.str s, y])) := Ch.new nT
        have eT : (upd H2 T (.tup [.str s, y])) T = some (.tup [.str s, y]) := upd_same
        generalize upd H2 T (.tup [.str s, y]) = H3 at cT eT ⊢
        have ry3 := ry.kt (c2.trans cT).kt
        have hpl3 := (c1.trans (c2.trans cT)).up _ _ hpl0 (by simp)
        walk_at "g"
        refine g_mid (fun b H' => b = false ∧ H' = H3) ?_ ?_
        · walk_at "g"
          refine iteB (fun hc => ?_) (fun hc => ?_)
          · have hs : s = "n" := by
              have := of_decide_eq_true hc
              injection this
            obtain ⟨z, rfl, z1, z2⟩ := o1 hs
            obtain rfl := ry3.intI
            walk_at "g"
            refine ⟨decide_eq_false ?_, rfl⟩
            split <;> omega
          · exact ⟨rfl, rfl⟩
        · rintro _ H4 ⟨rfl, e4⟩
          rw [e4]
          clear e4 H4
          walk_at "no"
          refine g_mid (fun b H' => b = false ∧ H' = H3) ?_ ?_
          · walk_at "g"
            refine iteB (fun hc => ?_) (fun hc => ?_)
            · have hs : s = "name" := by
                have := of_decide_eq_true hc
                injection this
              obtain ⟨z, rfl, z1⟩ := o2 hs
              obtain rfl := ry3.intI
              walk_at "g"
              refine ⟨?_, rfl⟩
              simp
              omega
            · exact ⟨rfl, rfl⟩
          · rintro _ H4 ⟨rfl, e4⟩
            rw [e4]
            clear e4 H4
            walk_at "no"
            refine g_mid (fun b H' => b = false ∧ H' = H3) ?_ ?_
            · walk_at "g"
              refine iteB (fun hc => ?_) (fun hc => ?_)
              · have hs : s = "fun" := by
                  have := of_decide_eq_true hc
                  injection this
                obtain ⟨z, rfl, z1⟩ := o3 hs
                obtain rfl := ry3.intI
                walk_at "g"
                refine ⟨?_, rfl⟩
                simp
                omega
              · exact ⟨rfl, rfl⟩
            · rintro _ H4 ⟨rfl, e4⟩
              rw [e4]
              clear e4 H4
              walk_at "no"
              exact ⟨_, _, rfl, c2.trans cT⟩
    · rintro σ H2 ⟨x3, x4, rfl, c2⟩
      have hS2 := (c1.trans c2).sqT hS
      have hpl2 := (c1.trans c2).up _ _ hpl0 (by simp)
      walk_at "g"
      refine g_mid (fun b H' => b = false ∧ H' = H2) ?_ ?_
      · walk_at "g"
        refine iteB (fun hc => ?_) (fun hc => ?_)
        · obtain ⟨f, qs, rfl⟩ : ∃ f ps, t = .p (.call f ps) := by
            cases t with
            | p p => cases p with
              | call f ps => exact ⟨f, ps, rfl⟩
              | _ => rw [wd_call (by trivial)] at hc; cases hc
            | d d => rw [wd_call (by trivial)] at hc; cases hc
          obtain ⟨v1, vs2, rfl, r1, rs2⟩ := rs.consI
          obtain ⟨v2, vs3, rfl, r2, rs3⟩ := rs2.consI
          obtain rfl := rs3.nilI
          obtain rfl := r1.intI
          obtain ⟨b, us, rfl, hb, rus⟩ := r2.tupI
          have hb2 := (c1.trans c2).sqT hb
          walk_at "g"
          rw [rus.len, encPs_len]
          refine ⟨f, qs.length, pl, ps, rfl, hpl2, own, ?_⟩
          walk_at "g"
          exact ⟨rfl, rfl⟩
        · exact ⟨rfl, rfl⟩
      · rintro _ H4 ⟨rfl, e4⟩
        rw [e4]
        walk_at "no"
        exact q H2 (c1.trans c2)
end
end K3
end

section
set_option maxRecDepth 100000
set_option maxHeartbeats 1000000
open Bq L2
/-- one step of a reading; what is left are side goals and places to think -/
local macro_rules | `(tactic| walk_at "g1") => `(tactic| first
  | with_reducible refine' g_seq ?_ | with_reducible refine' g_asg ?_ | with_reducible refine' g_drop ?_ | with_reducible refine' g_ret ?_ | with_reducible refine' g_ifS ?_ | with_reducible refine' g_asgG ?_
  | ((with_reducible refine' g_var ?hv ?_); (case hv => rfl))
  | with_reducible refine' g_c ?_ | with_reducible refine' g_op ?_ | with_reducible refine' g_un ?_ | with_reducible refine' g_I0 ?_ | with_reducible refine' g_U ?_
  | with_reducible refine' g_test ?_ | with_reducible refine' g_tB ?_ | with_reducible refine Exists.intro _ (And.intro rfl ?_) 
  | ((with_reducible refine' g_andP ?ha ?hb ?_); (case ha => intro R q; walk_at "g"; exact q); (case hb => intro R q; walk_at "g"; exact q))
  | ((with_reducible refine' g_orP ?ha ?hb ?_); (case ha => intro R q; walk_at "g"; exact q); (case hb => intro R q; walk_at "g"; exact q))
  | with_reducible refine' g_and ?_ | with_reducible refine' g_or ?_ | with_reducible refine' g_not ?_
  | with_reducible refine' g_andV ?_ | with_reducible refine' g_orV ?_ | with_reducible refine' g_notV ?_ | with_reducible refine' g_if ?_ | with_reducible refine' g_nil ?_ | with_reducible refine' g_cons ?_
  | with_reducible refine' g_tup ?_ | with_reducible refine' g_lst ?_ | with_reducible refine' g_CB ?_ | with_reducible refine' g_Fn ?_ | with_reducible refine' g_next ?_ | with_reducible refine' g_retN ?_
  | with_reducible refine' g_name ?_ | with_reducible refine' g_sub ?_
  | ((with_reducible refine' g_ixL ?hs ?he ?_); (case hs => walk_at "lk"); (case he => walk_at "at"))
  | ((with_reducible refine' g_ixT ?hs ?he ?_); (case hs => walk_at "lk"); (case he => walk_at "at"))
  | ((with_reducible refine' g_setL ?hs ?he ?_); (case hs => walk_at "hp"); (case he => rfl))
  | ((with_reducible refine' g_app ?hs ?hz ?_); (case hs => walk_at "hp"); (case hz => walk_at "sz"))
  | ((with_reducible refine' ⟨_, _, rfl, Or.inl ?hs, ?_⟩); (case hs => walk_at "lk"))
  | ((with_reducible refine' ⟨_, _, rfl, Or.inr ?hs, ?_⟩); (case hs => walk_at "lk"))
  | with_reducible refine' g_BM ?_ | with_reducible refine' g_BM0 ?_ | ((with_reducible refine' g_tyL ?hs ?_); (case hs => walk_at "lk"))
  | with_reducible refine' g_sl ?_ | with_reducible refine' g_noPart ?_ | with_reducible refine' g_part ?_
  | ((with_reducible refine' g_inT ?hs ?fx ?fs ?_); (case hs => walk_at "lk"); (case fx => rfl); (case fs => rfl))
  | with_reducible refine' g_pair ?_ | with_reducible refine' g_pair0 ?_ | with_reducible refine' g_disp ?_
  | with_reducible refine' g_for ?_ | with_reducible refine' g_tupC ?_ | with_reducible refine' g_lstC ?_ | ((with_reducible refine' g_lens ?_)) | with_reducible refine' g_dg ?_ | with_reducible refine' g_lc ?_ | with_reducible refine' g_rng1 ?_ | with_reducible refine' g_ilist ?_ | with_reducible refine' g_itup ?_
  | ((with_reducible refine' ⟨_, _, rfl, ?hd, ?_⟩); (case hd => walk_at "dg"))
  | ((with_reducible refine' g_eqNil ?hs ?hz ?_); (case hs => walk_at "lk"); (case hz => walk_at "lk"))
  | ((with_reducible refine' g_neNil ?hs ?hz ?_); (case hs => walk_at "lk"); (case hz => walk_at "lk"))
  | with_reducible refine Or.inl ⟨_, rfl, ?_⟩
  | with_reducible refine Or.inr ⟨_, rfl, ?_⟩
  | ((with_reducible refine' g_eq ?hs ?_); (case hs => rfl))
  | ((with_reducible refine' g_ne ?hs ?_); (case hs => rfl))
  | ((with_reducible refine' g_I ?hc ?_); (case hc => walk_at "ar")))
/-- arithmetic's side conditions -/
local macro_rules | `(tactic| walk_at "ar") => `(tactic| (first
  | (show (0 : Int) < _; first | omega | decide) | (show (0 : Int) < _ ∧ _; constructor <;> omega) | (show ¬ (_ : Int) = _; omega) | (show (_ : Int) ≠ _ ∧ _; constructor <;> omega)
  | (show (-(2 ^ 64) < _ ∧ _) ∨ _; (first | (left; constructor <;> omega) | (right; constructor <;> omega))) | (show (0 : Int) ≤ _ ∧ _ ∧ _; refine ⟨by omega, by omega, by decide⟩)))
/-- what stands at an index -/
local macro_rules | `(tactic| walk_at "at") => `(tactic| first | rfl | assumption)
/-- what stands at an address -/
local macro_rules | `(tactic| walk_at "hp") => `(tactic| first | assumption | exact upd_same | ((refine' Eq.trans (upd_ne ?hn) ?hm); (case hm => walk_at "hp"); (case hn => walk_at "ne")))
/-- two places are two -/
local macro_rules | `(tactic| walk_at "ne") => `(tactic| first
  | assumption | exact Ne.symm (by assumption)
  | ((refine' ne_of_none ?ha ?hb); (case hb => assumption); (case ha => walk_at "hp")) | ((refine' Ne.symm (ne_of_none ?ha ?hb)); (case hb => assumption); (case ha => walk_at "hp")))
/-- what a dict tells -/
local macro_rules | `(tactic| walk_at "dg") => `(tactic| first | assumption)
/-- a length -/
local macro_rules | `(tactic| walk_at "sz") => `(tactic| first | (show _ ≤ sizeLine; decide) | (show _ < sizeLine; decide) | assumption | exact szlt (by simp) | exact szle (by simp))
/-- a list or tuple that stands -/
local macro_rules | `(tactic| walk_at "lk") => `(tactic| first | assumption | exact SqL.of (by assumption) | exact SqT.of (by assumption) | exact SqL.of upd_same | exact SqT.of upd_same | (refine' FzL.sq ?hm; (case hm => walk_at "fz")))
/-- a list that nobody writes -/
local macro_rules | `(tactic| walk_at "fz") => `(tactic| first | assumption | ((refine' FzL.uw ?hm ?hx); (case hx => walk_at "hp"); (case hm => walk_at "fz")) | ((refine' FzL.nw ?hm ?hx); (case hx => assumption); (case hm => walk_at "fz")))
/-- as far as it goes by itself -/
local macro_rules | `(tactic| walk_at "g") => `(tactic| repeat walk_at "g1")
/-- the body's reading, its places in short -/
local macro_rules | `(tactic| walk_at "go") => `(tactic| ((try dsimp only [cxOf, Cx.nox, Cx.wish]); walk_at "g"))
namespace K3
open PySem PySem.Spec PyProof.Rows L2 Bq
section
variable {P : Program} {w : World} {K : PySem.W.Frag} {mg : Str → Option Value} {base : Heap}
/-- further steps: dicts written, tuples taken apart -/
local macro_rules | `(tactic| walk_at "g1") => `(tactic| first
  | with_reducible refine' g_sdput ?_
  | ((with_reducible refine' g_gtup ?hs ?hl ?_); (case hs => walk_at "lk"); (case hl => rfl))
  | with_reducible refine' g_gcons ?_
  | with_reducible refine' g_gnil ?_
  | with_reducible refine' And.intro (Eq.refl V.non) ?_
  | with_reducible refine' g_isN ?_
  | ((with_reducible refine' g_chainR ?ha ?hb ?hc ?_); (case ha => intro R q; walk_at "g"; exact q); (case hb => intro R q; walk_at "g"; exact q); (case hc => intro R q; walk_at "g"; exact q))
  | with_reducible refine' g_notN ?_)
/-- what the law's dict tells -/
local macro_rules | `(tactic| walk_at "dg") => `(tactic| first
  | assumption
  | exact LH.gfuns (by assumption)
  | exact LH.gsaid (by assumption)
  | exact LH.gcells (by assumption)
  | exact LH.gfuel (by assumption)
  | exact LH.gend (by assumption)
  | exact LH.gcalls (by assumption)
  | exact LH.gnames (by assumption)
  | exact LH.gwaits (by assumption)
  | exact LH.gworth (by assumption)
  | exact LH.glook (by assumption))
/-- a test that fails, that holds, by itself -/
local macro_rules | `(tactic| walk_at "no") => `(tactic| ((refine tkF rfl ?_); walk_at "g"))
local macro_rules | `(tactic| walk_at "yes") => `(tactic| ((refine tkT rfl ?_); walk_at "g"))
local macro_rules | `(tactic| walk_at "g1") => `(tactic| first
  | with_reducible refine' g_catS ?_
  | with_reducible refine' g_mulS ?_
  | with_reducible refine' g_rev ?_)
/-! ### what stands within a thing -/
def IsEnt (K : PySem.W.Frag) (H : Hp) (v : V) (e : Th × Int) : Prop := ∃ p u, v = .ref p ∧ SqT K H p [u, .int e.2] ∧ Rep K H u (encT e.1)
theorem IsEnt.kt {H H' : Hp} (k : Kt K H H') {v : V} {e : Th × Int} : IsEnt K H v e → IsEnt K H' v e
  | ⟨p, u, a, b, c⟩ => ⟨p, u, a, k.t _ _ b, c.kt k⟩
inductive Ents (K : PySem.W.Frag) (H : Hp) : List V → List (Th × Int) → Prop where
  | nil : Ents K H [] []
  | cons {v e vs es} (h : IsEnt K H v e) (r : Ents K H vs es) : Ents K H (v :: vs) (e :: es)
theorem Ents.kt {H H' : Hp} (k : Kt K H H') {vs : List V} {es : List (Th × Int)} (h : Ents K H vs es) : Ents K H' vs es := by
  induction h with
  | nil => exact .nil
  | cons h _ ih => exact .cons (h.kt k) ih
theorem Ents.len {H : Hp} {vs : List V} {es : List (Th × Int)} (h : Ents K H vs es) : vs.length = es.length := by
  induction h with
  | nil => rfl
  | cons _ _ ih => exact congrArg Nat.succ ih
theorem Ents.append {H : Hp} {vs us : List V} {es fs : List (Th × Int)} (h : Ents K H vs es) (g : Ents K H us fs) : Ents K H (vs ++ us) (es ++ fs) := by
  induction h with
  | nil => exact g
  | cons h _ ih => exact .cons h ih
theorem Ents.reverse {H : Hp} {vs : List V} {es : List (Th × Int)} (h : Ents K H vs es) : Ents K H vs.reverse es.reverse := by
  induction h with
  | nil => exact .nil
  | cons h _ ih =>
    rw [List.reverse_cons, List.reverse_cons]
    exact ih.append (.cons h .nil)
theorem Ents.snoc {H : Hp} {vs : List V} {e : Th × Int} {es : List (Th × Int)} (h : Ents K H vs (es ++ [e])) : ∃ us v, vs = us ++ [v] ∧ Ents K H us es ∧ IsEnt K H v e := by
  have h2 := h.reverse
  rw [List.reverse_append] at h2
  generalize e2 : vs.reverse = ws at h2
  cases h2 with
  | cons hv hr =>
    rename_i v ws'
    refine ⟨ws'.reverse, v, ?_, ?_, hv⟩
    · rw [← List.reverse_reverse vs, e2, List.reverse_cons]
    · have := hr.reverse
      simpa using this
theorem reps_ps {H : Hp} : ∀ {us : List V} {ps : List Pt} {i : Nat} {x : V}, Reps K H us (encPs ps) → us[i]? = some x → ∃ p, ps[i]? = some p ∧ Rep K H x (encP p)
  | us, [], i, x, r, h => by rw [r.nilI] at h; simp at h
  | us, p :: ps, i, x, r, h => by
    obtain ⟨v, vs, rfl, r0, r1⟩ := r.consI
    cases i with
    | zero => simp at h; subst h; exact ⟨p, rfl, r0⟩
    | succ i =>
      obtain ⟨p', h1, h2⟩ := reps_ps r1 (by simpa using h)
      exact ⟨p', by simpa using h1, h2⟩
theorem reps_ds {H : Hp} : ∀ {us : List V} {ps : List Dd} {i : Nat} {x : V}, Reps K H us (encB ps) → us[i]? = some x → ∃ p, ps[i]? = some p ∧ Rep K H x (encDd p)
  | us, [], i, x, r, h => by rw [r.nilI] at h; simp at h
  | us, p :: ps, i, x, r, h => by
    obtain ⟨v, vs, rfl, r0, r1⟩ := r.consI
    cases i with
    | zero => simp at h; subst h; exact ⟨p, rfl, r0⟩
    | succ i =>
      obtain ⟨p', h1, h2⟩ := reps_ds r1 (by simpa using h)
      exact ⟨p', by simpa using h1, h2⟩
def within (t : Th) (ar : Int) : List (Th × Int) := (innerT t).map (fun p => (Th.p p, (-1 : Int))) ++ (bodT t).flatten.map fun d => (Th.d d, ar + 1)
def spWithin (K : PySem.W.Frag) : Sp := fun vs H Q _ => ∃ v t, ∃ ar : Int, vs = [v, .int ar] ∧ Rep K H v (encT t) ∧ (within t ar).length ≤ 900 ∧ ∀ H' l us, Ch K [] H H' → H l = none → H' l = some (.lst us) → Ents K H' us (within t ar).reverse → Q (.ref l) H'
theorem fn_within (C : Cn w K mg base) : Fn P w K mg base CX0 3 "things_within" ["thing", "around"] (spWithin K) := C.f_things_within fun fd F => by
  have F_parts_of : Fn P w K mg base CX0 2 "parts_of" ["thing"] (spInner K) := fn_parts C
  have F_bodies_of : Fn P w K mg base CX0 2 "bodies_of" ["thing"] (spBodies K) := fn_bodies C
  refine F.ok (CX := CX0) sc_things_within (fun vs H Q E h => ?_) (fun cdv A outer s H vs Q E hr h => ?_)
  · obtain ⟨v, t, ar, rfl, _⟩ := h
    rfl
  · obtain ⟨v, t, ar, rfl, rep, hz, q⟩ := h
    refine ⟨_, PSs.nox (pss_cons (ps_setLc (i := 2) (own := [("part", 4)]) (g := gName 4) (tt := tYes) rfl sc_things_within.nd rfl rfl (sw_true rfl rfl rfl (by decide +kernel)) (pi_list (pe_fn F_parts_of (rmm hr) (by rfl) pass0 (pa_cons (pv 0) pa_nil))) (blkOk_by (own := [("part", 4)]) (N := ["thing", "around", "found", "body", "part", "deed"]) (sc := defScope s_things_within) (by decide +kernel)) (fun _ _ _ _ _ => pg_name (i := 4) sc_things_within.nd rfl (Or.inl rfl)) (fun _ _ _ _ _ => pts_nil) (fun _ _ _ _ _ => (pe_tupCK K (pa_cons (pv 4) (pa_cons (pe_iglob (by rfl) C.i_A_PART) pa_nil)))))
      (pss_cons (ps_for PassesOwn.never rfl (pi_list (pe_fn F_bodies_of (rmm hr) (by rfl) pass0 (pa_cons (pv 0) pa_nil))) (pg_name (i := 3) sc_things_within.nd rfl (Or.inl rfl)) (pss_one (ps_expr (pe_bm PySem.F.plainAttrs_list PySem.F.slot_list_extend PySem.F.type_list_extend mt_extend (pv 2) (pa_cons (pe_lc (own := [("deed", 5)]) (g := gName 5) (tt := tYes) rfl sc_things_within.nd (pi_tup (pv 3)) (blkOk_by (own := [("deed", 5)]) (N := ["thing", "around", "found", "body", "part", "deed"]) (sc := defScope s_things_within) (by decide +kernel)) (fun _ _ _ _ _ => pg_name (i := 5) sc_things_within.nd rfl (Or.inl rfl)) (fun _ _ _ _ _ => pts_nil) (fun _ _ _ _ _ => (pe_tupCK K (pa_cons (pv 5) (pa_cons (pe_op op_add (pv 1) pe_int) pa_nil))))) pa_nil)))))
      (pss_cons (ps_expr (pe_bm0 PySem.F.plainAttrs_list PySem.F.slot_list_reverse PySem.F.type_list_reverse mt_reverse (pv 2)))
      (pss_one (ps_ret (pv 2)))))), ?_⟩
    walk_at "go"
    refine ⟨v, t, rfl, rep, fun H1 l1 us1 c1 n1 e1 r1 => ?_⟩
    walk_at "g"
    simp only [within, List.length_append, List.length_map] at hz
    have lu1 : us1.length = (innerT t).length := by rw [r1.len, encPs_len]
    refine ⟨⟨_, SqL.of e1⟩, fun D nD => ?_⟩
    have nl1 : l1 ∉ [D] := by
      have := ne_of_none e1 nD
      simpa using this
    refine lcL1 (xs := us1) (fun i H' => Ch K [] H1 H' ∧ ∃ vs, H' D = some (.lst vs) ∧ Ents K H' vs (((innerT t).take i).map fun p => (Th.p p, (-1 : Int)))) ⟨Ch.new nD, [], upd_same, by
      rw [List.take_zero]
      exact .nil⟩ (fun i H' _ p => SqL.of (p.1.up _ _ e1 (by simp))) ?_ ?_
    · rintro i x H2 hx ⟨c2, vs, eD, es⟩
      obtain ⟨p, hp, rp⟩ := reps_ps r1 hx
      walk_at "g"
      refine ⟨szle (by simp), fun tp H3 _ e3 c3 => ?_⟩
      have eD3 := c3.up _ _ eD (by simp)
      have c4 : Ch K [] H1 (upd H3 D (.lst (vs ++ [V.ref tp]))) := Ch.wrN (c2.trans c3) nD eD3 rfl
      have k4 : Kt K H3 (upd H3 D (.lst (vs ++ [V.ref tp]))) := (Ch.wrL (S := [D]) eD3 (by simp)).kt
      have l1 := es.len
      rw [List.length_map, List.length_take] at l1
      refine ⟨vs, eD3, szlt (by omega), c4, _, upd_same, ?_⟩
      rw [List.take_add_one, hp, List.map_append]
      exact (es.kt (c3.kt.trans k4)).append (.cons ⟨tp, x, rfl, k4.t _ _ (SqT.of e3), rp.kt c4.kt⟩ .nil)
    · rintro H2 ⟨c2, vs, eD, es⟩
      rw [List.take_of_length_le (by omega)] at es
      walk_at "g"
      refine ⟨v, t, rfl, rep.kt (c1.trans c2).kt, fun H3 l3 us3 c3 n3 e3 r3 => ?_⟩
      have eD3 := c3.up _ _ eD (by simp)
      have nDl : D ≠ l3 := ne_of_none eD n3
      have es3 := es.kt c3.kt
      have nD0 : H D = none := c1.free nD (by simp)
      have c03 : Ch K [] H H3 := c1.trans (c2.trans c3)
      clear es eD c2 e1 r1
      walk_at "g"
      have lb : us3.length = (bodT t).length := by rw [r3.len, List.length_map]
      refine ⟨⟨_, SqL.of e3⟩, for_list (K := K) (a := l3) (xs := us3) (fun i σ H' => ∃ y, σ = [some v, some (.int ar), some (.ref D), y, none, none] ∧ Ch K [D] H3 H' ∧ Ch K [] H H' ∧ ∃ vs, H' D = some (.lst vs) ∧ Ents K H' vs ((innerT t).map (fun p => (Th.p p, (-1 : Int))) ++ ((bodT t).take i).flatten.map fun d => (Th.d d, ar + 1)))
        ⟨none, rfl, Ch.refl, c03, _, eD3, by simpa using es3⟩ (fun i σ H' _ ⟨_, _, c, _⟩ => SqL.of (c.up _ _ e3 (by simpa using nDl.symm))) ?_ ?_⟩
      · rintro i y σ H4 hi ⟨y0, rfl, c4, c04, vs, eD4, es4⟩
        obtain ⟨tb, htb, rb⟩ := r3.get hi
        rw [List.getElem?_map] at htb
        cases eb : (bodT t)[i]? with
        | none => rw [eb] at htb; cases htb
        | some b =>
          rw [eb] at htb
          obtain rfl : T.tup (encB b) = tb := Option.some.inj htb
          have rb4 := rb.kt c4.kt
          obtain ⟨ba, bvs, rfl, hba, rbs⟩ := rb4.tupI
          have lbv : bvs.length = b.length := by rw [rbs.len, encB_len]
          have hlen : ((bodT t).take i).flatten.length + b.length ≤ (bodT t).flatten.length := by
            have h1 : (bodT t).take (i + 1) = (bodT t).take i ++ [b] := by rw [List.take_add_one, eb]; rfl
            have h2 : ((bodT t).take (i + 1)).flatten.length ≤ (bodT t).flatten.length := by
              conv => rhs; rw [← List.take_append_drop (i + 1) (bodT t)]
              rw [List.flatten_append, List.length_append]
              omega
            rw [h1, List.flatten_append, List.length_append] at h2
            simpa using h2
          have lvs := es4.len
          rw [List.length_append, List.length_map, List.length_map] at lvs
          walk_at "g"
          refine ⟨⟨_, hba⟩, fun D2 nD2 => ?_⟩
          have nDD : D ∉ [D2] := by
            have := ne_of_none eD4 nD2
            simpa using this
          refine lcT1 (xs := bvs) (fun j H' => Ch K [] H4 H' ∧ ∃ ws, H' D2 = some (.lst ws) ∧ Ents K H' ws ((b.take j).map fun d => (Th.d d, ar + 1))) ⟨Ch.new nD2, [], upd_same, by
            rw [List.take_zero]
            exact .nil⟩ (fun j H' _ p => p.1.sqT hba) ?_ ?_
          · rintro j x H5 hx ⟨c5, ws, eD5, es5⟩
            obtain ⟨d, hd, rd⟩ := reps_ds rbs hx
            walk_at "g"
            refine ⟨szle (by simp), fun tp H6 _ e6 c6 => ?_⟩
            have eD6 := c6.up _ _ eD5 (by simp)
            have c7 : Ch K [] H4 (upd H6 D2 (.lst (ws ++ [V.ref tp]))) := Ch.wrN (c5.trans c6) nD2 eD6 rfl
            have k7 : Kt K H6 (upd H6 D2 (.lst (ws ++ [V.ref tp]))) := (Ch.wrL (S := [D2]) eD6 (by simp)).kt
            have l1 := es5.len
            rw [List.length_map, List.length_take] at l1
            refine ⟨ws, eD6, szlt (by omega), c7, _, upd_same, ?_⟩
            rw [List.take_add_one, hd, List.map_append]
            exact (es5.kt (c6.kt.trans k7)).append (.cons ⟨tp, x, rfl, k7.t _ _ (SqT.of e6), rd.kt c7.kt⟩ .nil)
          · rintro H5 ⟨c5, ws, eD5, es5⟩
            rw [List.take_of_length_le (by omega)] at es5
            have eDD := c5.up _ _ eD4 (by simp)
            have lws := es5.len
            rw [List.length_map] at lws
            walk_at "g"
            refine ⟨D, D2, vs, ws, rfl, rfl, eDD, eD5, szle (by omega), ?_⟩
            have c8 : Ch K [D] H5 (upd H5 D (.lst (vs ++ ws))) := Ch.wrL eDD (by simp)
            have c08 : Ch K [] H (upd H5 D (.lst (vs ++ ws))) := Ch.wrN (c04.trans c5) nD0 eDD rfl
            walk_at "g"
            refine ⟨(c4.trans (c5.mono (by simp))).trans c8, c08, _, upd_same, ?_⟩
            have h1 : (bodT t).take (i + 1) = (bodT t).take i ++ [b] := by rw [List.take_add_one, eb]; rfl
            rw [h1, List.flatten_append, List.map_append, ← List.append_assoc]
            simp only [List.flatten_cons, List.flatten_nil, List.append_nil]
            exact (es4.kt (c5.kt.trans c8.kt)).append (es5.kt c8.kt)
      · rintro σ H4 ⟨y0, rfl, c4, c04, vs, eD4, es4⟩
        rw [List.take_of_length_le (by omega)] at es4
        walk_at "g"
        refine ⟨D, vs, rfl, rfl, eD4, ?_⟩
        have c5 : Ch K [D] H4 (upd H4 D (.lst vs.reverse)) := Ch.wrL eD4 (by simp)
        have c05 : Ch K [] H (upd H4 D (.lst vs.reverse)) := Ch.wrN c04 nD0 eD4 rfl
        walk_at "g"
        exact q _ D vs.reverse c05 nD0 upd_same ((es4.kt c5.kt).reverse)
end
end K3
end

section
set_option maxRecDepth 100000
set_option maxHeartbeats 1000000
open Bq L2
/-- one step of a reading; what is left are side goals and places to think -/
local macro_rules | `(tactic| walk_at "g1") => `(tactic| first
  | with_reducible refine' g_seq ?_ | with_reducible refine' g_asg ?_ | with_reducible refine' g_drop ?_ | with_reducible refine' g_ret ?_ | with_reducible refine' g_ifS ?_ | with_reducible refine' g_asgG ?_
  | ((with_reducible refine' g_var ?hv ?_); (case hv => rfl))
  | with_reducible refine' g_c ?_ | with_reducible refine' g_op ?_ | with_reducible refine' g_un ?_ | with_reducible refine' g_I0 ?_ | with_reducible refine' g_U ?_
  | with_reducible refine' g_test ?_ | with_reducible refine' g_tB ?_ | with_reducible refine Exists.intro _ (And.intro rfl ?_) 
  | ((with_reducible refine' g_andP ?ha ?hb ?_); (case ha => intro R q; walk_at "g"; exact q); (case hb => intro R q; walk_at "g"; exact q))
  | ((with_reducible refine' g_orP ?ha ?hb ?_); (case ha => intro R q; walk_at "g"; exact q); (case hb => intro R q; walk_at "g"; exact q))
  | with_reducible refine' g_and ?_ | with_reducible refine' g_or ?_ | with_reducible refine' g_not ?_
  | with_reducible refine' g_andV ?_ | with_reducible refine' g_orV ?_ | with_reducible refine' g_notV ?_ | with_reducible refine' g_if ?_ | with_reducible refine' g_nil ?_ | with_reducible refine' g_cons ?_
  | with_reducible refine' g_tup ?_ | with_reducible refine' g_lst ?_ | with_reducible refine' g_CB ?_ | with_reducible refine' g_Fn ?_ | with_reducible refine' g_next ?_ | with_reducible refine' g_retN ?_
  | with_reducible refine' g_name ?_ | with_reducible refine' g_sub ?_
  | ((with_reducible refine' g_ixL ?hs ?he ?_); (case hs => walk_at "lk"); (case he => walk_at "at"))
  | ((with_reducible refine' g_ixT ?hs ?he ?_); (case hs => walk_at "lk"); (case he => walk_at "at"))
  | ((with_reducible refine' g_setL ?hs ?he ?_); (case hs => walk_at "hp"); (case he => rfl))
  | ((with_reducible refine' g_app ?hs ?hz ?_); (case hs => walk_at "hp"); (case hz => walk_at "sz"))
  | ((with_reducible refine' ⟨_, _, rfl, Or.inl ?hs, ?_⟩); (case hs => walk_at "lk"))
  | ((with_reducible refine' ⟨_, _, rfl, Or.inr ?hs, ?_⟩); (case hs => walk_at "lk"))
  | with_reducible refine' g_BM ?_ | with_reducible refine' g_BM0 ?_ | ((with_reducible refine' g_tyL ?hs ?_); (case hs => walk_at "lk"))
  | with_reducible refine' g_sl ?_ | with_reducible refine' g_noPart ?_ | with_reducible refine' g_part ?_
  | ((with_reducible refine' g_inT ?hs ?fx ?fs ?_); (case hs => walk_at "lk"); (case fx => rfl); (case fs => rfl))
  | with_reducible refine' g_pair ?_ | with_reducible refine' g_pair0 ?_ | with_reducible refine' g_disp ?_
  | with_reducible refine' g_for ?_ | with_reducible refine' g_tupC ?_ | with_reducible refine' g_lstC ?_ | ((with_reducible refine' g_lens ?_)) | with_reducible refine' g_dg ?_ | with_reducible refine' g_lc ?_ | with_reducible refine' g_rng1 ?_ | with_reducible refine' g_ilist ?_ | with_reducible refine' g_itup ?_
  | ((with_reducible refine' ⟨_, _, rfl, ?hd, ?_⟩); (case hd => walk_at "dg"))
  | ((with_reducible refine' g_eqNil ?hs ?hz ?_); (case hs => walk_at "lk"); (case hz => walk_at "lk"))
  | ((with_reducible refine' g_neNil ?hs ?hz ?_); (case hs => walk_at "lk"); (case hz => walk_at "lk"))
  | with_reducible refine Or.inl ⟨_, rfl, ?_⟩
  | with_reducible refine Or.inr ⟨_, rfl, ?_⟩
  | ((with_reducible refine' g_eq ?hs ?_); (case hs => rfl))
  | ((with_reducible refine' g_ne ?hs ?_); (case hs => rfl))
  | ((with_reducible refine' g_I ?hc ?_); (case hc => walk_at "ar")))
/-- arithmetic's side conditions -/
local macro_rules | `(tactic| walk_at "ar") => `(tactic| (first
  | (show (0 : Int) < _; first | omega | decide) | (show (0 : Int) < _ ∧ _; constructor <;> omega) | (show ¬ (_ : Int) = _; omega) | (show (_ : Int) ≠ _ ∧ _; constructor <;> omega)
  | (show (-(2 ^ 64) < _ ∧ _) ∨ _; (first | (left; constructor <;> omega) | (right; constructor <;> omega))) | (show (0 : Int) ≤ _ ∧ _ ∧ _; refine ⟨by omega, by omega, by decide⟩)))
/-- what stands at an index -/
local macro_rules | `(tactic| walk_at "at") => `(tactic| first | rfl | assumption)
/-- what stands at an address -/
local macro_rules | `(tactic| walk_at "hp") => `(tactic| first | assumption | exact upd_same | ((refine' Eq.trans (upd_ne ?hn) ?hm); (case hm => walk_at "hp"); (case hn => walk_at "ne")))
/-- two places are two -/
local macro_rules | `(tactic| walk_at "ne") => `(tactic| first
  | assumption | exact Ne.symm (by assumption)
  | ((refine' ne_of_none ?ha ?hb); (case hb => assumption); (case ha => walk_at "hp")) | ((refine' Ne.symm (ne_of_none ?ha ?hb)); (case hb => assumption); (case ha => walk_at "hp")))
/-- what a dict tells -/
local macro_rules | `(tactic| walk_at "dg") => `(tactic| first | assumption)
/-- a length -/
local macro_rules | `(tactic| walk_at "sz") => `(tactic| first | (show _ ≤ sizeLine; decide) | (show _ < sizeLine; decide) | assumption | exact szlt (by simp) | exact szle (by simp))
/-- a list or tuple that stands -/
local macro_rules | `(tactic| walk_at "lk") => `(tactic| first | assumption | exact SqL.of (by assumption) | exact SqT.of (by assumption) | exact SqL.of upd_same | exact SqT.of upd_same | (refine' FzL.sq ?hm; (case hm => walk_at "fz")))
/-- a list that nobody writes -/
local macro_rules | `(tactic| walk_at "fz") => `(tactic| first | assumption | ((refine' FzL.uw ?hm ?hx); (case hx => walk_at "hp"); (case hm => walk_at "fz")) | ((refine' FzL.nw ?hm ?hx); (case hx => assumption); (case hm => walk_at "fz")))
/-- as far as it goes by itself -/
local macro_rules | `(tactic| walk_at "g") => `(tactic| repeat walk_at "g1")
/-- the body's reading, its places in short -/
local macro_rules | `(tactic| walk_at "go") => `(tactic| ((try dsimp only [cxOf, Cx.nox, Cx.wish]); walk_at "g"))
namespace K3
open PySem PySem.Spec PyProof.Rows L2 Bq
section
variable {P : Program} {w : World} {K : PySem.W.Frag} {mg : Str → Option Value} {base : Heap}
/-- further steps: dicts written, tuples taken apart -/
local macro_rules | `(tactic| walk_at "g1") => `(tactic| first
  | with_reducible refine' g_sdput ?_
  | ((with_reducible refine' g_gtup ?hs ?hl ?_); (case hs => walk_at "lk"); (case hl => rfl))
  | with_reducible refine' g_gcons ?_
  | with_reducible refine' g_gnil ?_
  | with_reducible refine' And.intro (Eq.refl V.non) ?_
  | with_reducible refine' g_isN ?_
  | ((with_reducible refine' g_chainR ?ha ?hb ?hc ?_); (case ha => intro R q; walk_at "g"; exact q); (case hb => intro R q; walk_at "g"; exact q); (case hc => intro R q; walk_at "g"; exact q))
  | with_reducible refine' g_notN ?_)
/-- what the law's dict tells -/
local macro_rules | `(tactic| walk_at "dg") => `(tactic| first
  | assumption
  | exact LH.gfuns (by assumption)
  | exact LH.gsaid (by assumption)
  | exact LH.gcells (by assumption)
  | exact LH.gfuel (by assumption)
  | exact LH.gend (by assumption)
  | exact LH.gcalls (by assumption)
  | exact LH.gnames (by assumption)
  | exact LH.gwaits (by assumption)
  | exact LH.gworth (by assumption)
  | exact LH.glook (by assumption))
/-- a test that fails, that holds, by itself -/
local macro_rules | `(tactic| walk_at "no") => `(tactic| ((refine tkF rfl ?_); walk_at "g"))
local macro_rules | `(tactic| walk_at "yes") => `(tactic| ((refine tkT rfl ?_); walk_at "g"))
local macro_rules | `(tactic| walk_at "g1") => `(tactic| first
  | with_reducible refine' g_catS ?_
  | with_reducible refine' g_mulS ?_
  | with_reducible refine' g_rev ?_)
/-! ### a body looked at -/
theorem lcR {a : Addr} {xs : List V} {k : Nat} {te : TE} {σ : L2.St} {H1 : Hp} {D : Addr} {Qd : Hp → Prop} (Pv : Nat → Hp → Prop) (h0 : Pv 0 (upd H1 D (.lst []))) (hl : ∀ i H, Pv i H → SqT K H a xs)
    (hs : ∀ (i : Nat) x H, xs[xs.length - 1 - i]? = some x → i < xs.length → Pv i H → te ((wipe σ [k]).set k (some x)) H fun y H4 => ∃ acc, H4 D = some (.lst acc) ∧ acc.length < sizeLine ∧ Pv (i + 1) (upd H4 D (.lst (acc ++ [y])))) (hd : ∀ H, Pv xs.length H → Qd H) :
    ∃ W : Nat → Nat → Hp → Prop, (∃ m, W 0 m (upd H1 D (.lst []))) ∧ ∀ i m H, W i m H →
      ((RT.ItvT K a xs.length).stop i H ∧ Qd H) ∨ ((RT.ItvT K a xs.length).go i H ∧ ∃ Nx : Hp → Prop, (∀ H', Nx H' → ∃ m', m' < m ∧ W (i + 1) m' H') ∧ ∀ x H', (RT.ItvT K a xs.length).yld i H x H' → gName k x (wipe σ [k]) H' fun σ2 H2 => wipe σ2 [k] = wipe σ [k] ∧ tYes σ2 H2 fun b H3 =>
        if b = true then te σ2 H3 fun y H4 => ∃ acc, H4 D = some (.lst acc) ∧ acc.length < sizeLine ∧ Nx (upd H4 D (.lst (acc ++ [y]))) else Nx H3) := by
  refine ⟨fun i m H => m = xs.length - i ∧ i ≤ xs.length ∧ Pv i H, ⟨xs.length, rfl, Nat.zero_le _, h0⟩, ?_⟩
  rintro i m H ⟨rfl, hi, p⟩
  by_cases hlt : i < xs.length
  · have hj : xs.length - 1 - i < xs.length := by omega
    have hx : xs[xs.length - 1 - i]? = some xs[xs.length - 1 - i] := List.getElem?_eq_getElem hj
    refine .inr ⟨⟨hlt, xs, _, hl i H p, hx⟩, Pv (i + 1), fun H' p' => ⟨xs.length - (i + 1), by omega, rfl, hlt, p'⟩, fun v H' y => ?_⟩
    obtain ⟨e, hy⟩ := y
    subst e
    refine ⟨wipe1, ?_⟩
    simp only [tYes, ↓reduceIte]
    exact hs i v _ (hy xs (hl i _ p)) hlt p
  · have e : i = xs.length := by omega
    subst e
    exact .inl ⟨Nat.le_refl _, hd H p⟩
def stk (pts : List Pt) (ds : List (Dd × Nat)) : List (Th × Int) := pts.map (fun p => (Th.p p, (-1 : Int))) ++ ds.map fun x => (Th.d x.1, (x.2 : Int))
def szDs : List (Dd × Nat) → Nat
  | [] => 0
  | x :: r => szD x.1 + szDs r
theorem szDs_app : ∀ a b : List (Dd × Nat), szDs (a ++ b) = szDs a + szDs b
  | [], b => by simp [szDs]
  | x :: r, b => by
    have := szDs_app r b
    simp only [List.cons_append, szDs, this]
    omega
theorem szPs_app : ∀ a b : List Pt, szPs (a ++ b) = szPs a + szPs b
  | [], b => by simp [szPs]
  | x :: r, b => by
    have := szPs_app r b
    simp only [List.cons_append, szPs, this]
    omega
theorem szDs_map (n : Nat) : ∀ b : List Dd, szDs (b.map fun d => (d, n)) = szB b
  | [] => rfl
  | d :: r => by
    have := szDs_map n r
    simp only [List.map_cons, szDs, szB, this]
theorem sz_inner (p : Pt) : szPs (innerP p) + 1 = szP p := by
  have := remP_inner p
  simp only [remP, List.drop_zero] at this
  omega
theorem szB_app : ∀ a b : List Dd, szB (a ++ b) = szB a + szB b
  | [], b => by simp [szB]
  | x :: r, b => by
    have := szB_app r b
    simp only [List.cons_append, szB, this]
    omega
theorem sz_innerD (d : Dd) : szPs (innerD d) + 1 + szB (bodT (.d d)).flatten = szD d := by
  cases d <;> simp [innerD, bodT, szPs, szB, szD, szB_app] <;> omega
theorem sz_inner40 {nm m : Nat} {ps : List Nat} {d : Dd} (w : wfD nm ps m d) : szPs (innerD d) ≤ 40 := by
  cases d with
  | set i p => have := w.2.2; simp [innerD, szPs]; omega
  | put c p => have := w.2.2; simp [innerD, szPs]; omega
  | say p => have := w.2; simp [innerD, szPs]; omega
  | ite p a b => have := w.2.1; simp [innerD, szPs]; omega
  | whl p b => have := w.2.1; simp [innerD, szPs]; omega
  | ret p => have := w.2; simp [innerD, szPs]; omega
  | dop p => have := w.2; simp [innerD, szPs]; omega
theorem wfPs_mem {nm : Nat} {ps : List Nat} : ∀ {l : List Pt}, wfPs nm ps l ↔ ∀ p ∈ l, wfP nm ps p
  | [] => by simp [wfPs]
  | p :: r => by simp [wfPs, wfPs_mem (l := r)]
theorem wfP_all {nm : Nat} {ps : List Nat} {p : Pt} (w : wfP nm ps p) : ∀ q ∈ innerP p, wfP nm ps q := by
  intro q hq
  obtain ⟨n, hn⟩ := List.mem_iff_getElem?.mp hq
  exact wfP_inner w hn
theorem wfD_all {nm m : Nat} {ps : List Nat} {d : Dd} (w : wfD nm ps m d) : ∀ q ∈ innerD d, wfP nm ps q := by
  intro q hq
  obtain ⟨n, hn⟩ := List.mem_iff_getElem?.mp hq
  exact wfD_inner w hn
theorem wfBs_mem {nm : Nat} {ps : List Nat} {m : Nat} {d : Dd} : ∀ {b : List Dd}, wfBs nm ps m b → d ∈ b → ∃ k, m = k + 1 ∧ wfD nm ps k d
  | [], _, h => by simp at h
  | x :: r, w, h => by
    cases m with
    | zero => exact w.elim
    | succ k =>
      rcases List.mem_cons.mp h with rfl | h
      · exact ⟨k, rfl, w.1⟩
      · exact wfBs_mem (b := r) w.2 h
theorem wf_bodies {nm m : Nat} {ps : List Nat} {d : Dd} (w : wfD nm ps m d) : ∀ x ∈ (bodT (.d d)).flatten, ∃ k, m = k + 1 ∧ wfD nm ps k x := by
  intro x hx
  cases d with
  | ite p a b =>
    simp only [bodT, List.flatten_cons, List.flatten_nil, List.append_nil, List.mem_append] at hx
    rcases hx with h | h
    · exact wfBs_mem w.2.2.1 h
    · exact wfBs_mem w.2.2.2 h
  | whl p b =>
    simp only [bodT, List.flatten_cons, List.flatten_nil, List.append_nil] at hx
    exact wfBs_mem w.2.2 hx
  | _ => simp [bodT] at hx
theorem own_p {nm : Nat} {ps : List Nat} {p : Pt} (w : wfP nm ps p) : ownOk nm ps (.p p) := by
  cases p with
  | num n => exact w
  | name n => exact w
  | call f qs => exact w.1
  | _ => trivial
theorem own_d {nm m : Nat} {ps : List Nat} {d : Dd} (w : wfD nm ps m d) : ownOk nm ps (.d d) := by
  cases d with
  | set i p => exact w.1
  | _ => trivial
theorem szDs_len : ∀ ds : List (Dd × Nat), ds.length ≤ szDs ds
  | [] => Nat.zero_le _
  | x :: r => by
    have := szDs_len r
    have h : 1 ≤ szD x.1 := by cases x.1 <;> simp [szD] <;> omega
    simp only [List.length_cons, szDs]
    omega
theorem szPs_len : ∀ ps : List Pt, ps.length ≤ szPs ps
  | [] => Nat.zero_le _
  | x :: r => by
    have := szPs_len r
    have h : 1 ≤ szP x := by cases x <;> simp [szP] <;> omega
    simp only [List.length_cons, szPs]
    omega
theorem szB_len' : ∀ ps : List Dd, ps.length ≤ szB ps
  | [] => Nat.zero_le _
  | x :: r => by
    have := szB_len' r
    have h : 1 ≤ szD x := by cases x <;> simp [szD] <;> omega
    simp only [List.length_cons, szB]
    omega
def spBodyFlaw (K : PySem.W.Frag) : Sp := fun vs H Q _ => ∃ v b nm pl, ∃ ps : List Nat, vs = [v, .int (nm : Nat), .ref pl] ∧ Rep K H v (.tup (encB b)) ∧ H pl = some (.lst (ps.map fun n => V.int (n : Nat))) ∧ wfBs nm ps 8 b ∧ szB b ≤ 190 ∧ ∀ H', Ch K [] H H' → Q .non H'
/-- the state of the look: parts to do first, then deeds -/
structure BI (K : PySem.W.Frag) (H : Hp) (nm : Nat) (ps : List Nat) (D : Addr) (pts : List Pt) (ds : List (Dd × Nat)) (at_ wide : Nat) : Prop where
  e : ∃ vs, H D = some (.lst vs) ∧ Ents K H vs (stk pts ds).reverse
  sz : at_ + szPs pts + szDs ds ≤ 190
  wd : wide + szPs pts ≤ 40
  wp : ∀ p ∈ pts, wfP nm ps p
  wdd : ∀ x ∈ ds, x.2 ≤ 7 ∧ wfD nm ps (7 - x.2) x.1
/-- what comes up: a part, or a deed -/
theorem BI.pop {H : Hp} {nm : Nat} {ps : List Nat} {D : Addr} {pts : List Pt} {ds : List (Dd × Nat)} {at_ wide : Nat} (h : BI K H nm ps D pts ds at_ wide) (hn : stk pts ds ≠ []) :
    ∃ us v t ar rest wide' pts' ds', H D = some (.lst (us ++ [v])) ∧ IsEnt K H v (t, ar) ∧ Ents K H us rest.reverse ∧ within t ar ++ rest = stk pts' ds' ∧ (within t ar).length ≤ 190 ∧ ownOk nm ps t ∧ (isP t = true → ar = -1 ∧ wide' = wide + 1) ∧ (isP t = false → 0 ≤ ar ∧ wide' = 0) ∧ at_ ≤ 189 ∧ ar ≤ 7 ∧ wide' ≤ 40 ∧
      at_ + 1 + szPs pts' + szDs ds' ≤ 190 ∧ wide' + szPs pts' ≤ 40 ∧ (∀ p ∈ pts', wfP nm ps p) ∧ (∀ x ∈ ds', x.2 ≤ 7 ∧ wfD nm ps (7 - x.2) x.1) ∧ szPs pts' + szDs ds' < szPs pts + szDs ds ∧ rest.length ≤ 190 := by
  obtain ⟨⟨vs, eD, es⟩, sz, wd, wp, wdd⟩ := h
  cases pts with
  | cons p r =>
    have e1 : (stk (p :: r) ds).reverse = (stk r ds).reverse ++ [(Th.p p, (-1 : Int))] := by simp [stk]
    rw [e1] at es
    obtain ⟨us, v, rfl, es', hv⟩ := es.snoc
    have h1 := sz_inner p
    have h2 := szPs_len (innerP p)
    have h3 := szPs_len r
    have h4 := szDs_len ds
    simp only [szPs] at sz wd ⊢
    have lw : within (Th.p p) (-1) = (innerP p).map fun p => (Th.p p, (-1 : Int)) := by simp [within, innerT, bodT]
    refine ⟨us, v, .p p, -1, stk r ds, wide + 1, innerP p ++ r, ds, eD, hv, es', ?_, ?_, own_p (wp p (by simp)), fun _ => ⟨rfl, rfl⟩, (fun z => by cases z), by omega, by omega, by omega, ?_, ?_, ?_, wdd, ?_, ?_⟩
    · rw [lw]; simp [stk]
    · rw [lw, List.length_map]; omega
    · rw [szPs_app]; omega
    · rw [szPs_app]; omega
    · intro q hq
      rcases List.mem_append.mp hq with h | h
      · exact wfP_all (wp p (by simp)) q h
      · exact wp q (by simp [h])
    · rw [szPs_app]; omega
    · simp only [stk, List.length_append, List.length_map]; omega
  | nil =>
    cases ds with
    | nil => exact absurd rfl hn
    | cons x r =>
      obtain ⟨d, a⟩ := x
      have e1 : (stk [] ((d, a) :: r)).reverse = (stk [] r).reverse ++ [(Th.d d, (a : Int))] := by simp [stk]
      rw [e1] at es
      obtain ⟨us, v, rfl, es', hv⟩ := es.snoc
      obtain ⟨ha, wD⟩ := wdd (d, a) (by simp)
      have h1 := sz_innerD d
      have h2 := szPs_len (innerD d)
      have h3 := szB_len' (bodT (.d d)).flatten
      have h4 := szDs_len r
      have h5 : szPs (innerD d) ≤ 40 := sz_inner40 wD
      simp only [szPs, szDs] at sz ⊢
      refine ⟨us, v, .d d, a, stk [] r, 0, innerD d, (bodT (.d d)).flatten.map (fun d => (d, a + 1)) ++ r, eD, hv, es', ?_, ?_, own_d wD, (fun z => by cases z), fun _ => ⟨by omega, rfl⟩, by omega, by omega, by omega, ?_, by omega, wfD_all wD, ?_, ?_, ?_⟩
      · simp [within, stk, innerT, List.map_map, Function.comp_def]
      · simp only [within, innerT, List.length_append, List.length_map]; omega
      · rw [szDs_app, szDs_map]; omega
      · intro y hy
        rcases List.mem_append.mp hy with h | h
        · obtain ⟨d', hd', rfl⟩ := List.mem_map.mp h
          obtain ⟨k, hk, wk⟩ := wf_bodies wD d' hd'
          refine ⟨by simp only; omega, ?_⟩
          have : 7 - (a + 1) = k := by simp only at hk; omega
          simp only [this]
          exact wk
        · exact wdd y (by simp [h])
      · rw [szDs_app, szDs_map]; omega
      · simp only [stk, List.map_nil, List.nil_append, List.length_map]; omega
theorem g_revA {te : TE} {σ : L2.St} {H : Hp} {R : It → Hp → Prop} (h : te σ H fun v H1 => ∃ (a : Addr) (xs : List V), v = .ref a ∧ ((SqL K H1 a xs ∧ R (Itv K a xs.length) H1) ∨ (SqT K H1 a xs ∧ R (RT.ItvT K a xs.length) H1))) : RT.iRevA K te σ H R := h
theorem g_orT {ta tb : TE} {σ : L2.St} {H : Hp} {Q : VK} (h : ta σ H fun x H1 => ∃ k, TruV K x H1 k ∧ if k = true then Q x H1 else tb σ H1 Q) : tOrT K ta tb σ H Q := h
theorem tru_no {H : Hp} : TruV K (.str "") H false := ⟨Nat.zero_le _, rfl⟩
theorem fn_body_flaw (C : Cn w K mg base) : Fn P w K mg base CX0 4 "body_flaw" ["body", "names", "params"] (spBodyFlaw K) := C.f_body_flaw fun fd F => by
  have F_bound_flaw : Fn P w K mg base CX0 1 "bound_flaw" ["at", "around", "wide"] (spBound K) := fn_bound C
  have F_shape_flaw : Fn P w K mg base CX0 2 "shape_flaw" ["thing", "around"] (spShape K) := fn_shape C
  have F_number_flaw : Fn P w K mg base CX0 2 "number_flaw" ["thing", "names", "params"] (spNumber K) := fn_number C
  have F_things_within : Fn P w K mg base CX0 3 "things_within" ["thing", "around"] (spWithin K) := fn_within C
  refine F.ok (CX := CX0) sc_body_flaw (fun vs H Q E h => ?_) (fun cdv A outer s H vs Q E hr h => ?_)
  · obtain ⟨v, b, nm, pl, ps, rfl, _⟩ := h
    rfl
  · obtain ⟨v, b, nm, pl, ps, rfl, rep, hpl, wb, szb, q⟩ := h
    refine ⟨_, PSs.nox (pss_cons (ps_setLc (i := 3) (own := [("deed", 9)]) (g := gName 9) (tt := tYes) rfl sc_body_flaw.nd rfl rfl (sw_true rfl rfl rfl (by decide +kernel)) (RT.pi_revA (by rfl) (C.m_reversed) (pv 0)) (blkOk_by (own := [("deed", 9)]) (N := ["body", "names", "params", "todo", "at", "wide", "thing", "around", "why", "deed"]) (sc := defScope s_body_flaw) (by decide +kernel)) (fun _ _ _ _ _ => pg_name (i := 9) sc_body_flaw.nd rfl (Or.inl rfl)) (fun _ _ _ _ _ => pts_nil) (fun _ _ _ _ _ => (pe_tupCK K (pa_cons (pv 9) (pa_cons pe_int pa_nil)))))
      (pss_cons (ps_set (i := 4) sc_body_flaw.nd rfl (Or.inl rfl) pe_int)
      (pss_cons (ps_set (i := 5) sc_body_flaw.nd rfl (Or.inl rfl) pe_int)
      (pss_cons (ps_while PassesOwn.never (pt_truth (pv 3) (by intro _; rfl)) (pss_cons (ps_asg (pe_bm0 PySem.F.plainAttrs_list PySem.F.slot_list_pop PySem.F.type_list_pop mt_pop (pv 3)) (pg_tup rfl (pgs_cons (pg_name (i := 6) sc_body_flaw.nd rfl (Or.inl rfl)) (pgs_cons (pg_name (i := 7) sc_body_flaw.nd rfl (Or.inl rfl)) pgs_nil))))
      (pss_cons (ps_set (i := 5) sc_body_flaw.nd rfl (Or.inl rfl) (pe_mid (pe_ifExp (pt_cmpR op_eq (pv 7) (pe_iglob (by rfl) C.i_A_PART) (nomark _)) (pe_op op_add (pv 5) pe_int) pe_int)))
      (pss_cons (ps_set (i := 8) sc_body_flaw.nd rfl (Or.inl rfl) (pe_mid (pe_orT (pe_fn F_bound_flaw (rmm hr) (by rfl) pass0 (pa_cons (pv 4) (pa_cons (pv 7) (pa_cons (pv 5) pa_nil)))) (pe_orT (pe_fn F_shape_flaw (rmm hr) (by rfl) pass0 (pa_cons (pv 6) (pa_cons (pv 7) pa_nil))) (pe_one (pe_fn F_number_flaw (rmm hr) (by rfl) pass0 (pa_cons (pv 6) (pa_cons (pv 1) (pa_cons (pv 2) pa_nil)))))))))
      (pss_cons (ps_if (pt_truth (pv 8) (by intro _; rfl)) (pss_one (ps_ret (pe_tupC (pa_cons (pv 4) (pa_cons (pv 8) pa_nil))))) pss_nil)
      (pss_cons (ps_expr (pe_bm PySem.F.plainAttrs_list PySem.F.slot_list_extend PySem.F.type_list_extend mt_extend (pv 3) (pa_cons (pe_fn F_things_within (rmm hr) (by rfl) pass0 (pa_cons (pv 6) (pa_cons (pv 7) pa_nil))) pa_nil)))
      (pss_one (ps_aug (i := 4) sc_body_flaw.nd rfl (Or.inl rfl) pe_int ip_add))))))))
      (pss_one (ps_ret pe_non)))))), ?_⟩
    obtain ⟨ba, bvs, rfl, hba, rbs⟩ := rep.tupI
    have lbv : bvs.length = b.length := by rw [rbs.len, encB_len]
    have lb := szB_len' b
    walk_at "go"
    refine g_revA ?_
    walk_at "g"
    refine ⟨ba, bvs, rfl, .inr ⟨hba, fun D nD => ?_⟩⟩
    have npD : pl ≠ D := ne_of_none hpl nD
    refine lcR (xs := bvs) (fun i H' => Ch K [] H H' ∧ ∃ vs, H' D = some (.lst vs) ∧ Ents K H' vs ((b.reverse.take i).map fun d => (Th.d d, (0 : Int)))) ⟨Ch.new nD, [], upd_same, by
      rw [List.take_zero]
      exact .nil⟩ (fun i H' p => p.1.sqT hba) ?_ ?_
    · rintro i x H2 hx hi ⟨c2, vs, eD, es⟩
      obtain ⟨d, hd, rd⟩ := reps_ds rbs hx
      have hd' : b.reverse[i]? = some d := by
        rw [List.getElem?_reverse (by omega)]
        rw [← lbv]
        exact hd
      walk_at "g"
      refine ⟨szle (by simp), fun tp H3 _ e3 c3 => ?_⟩
      have eD3 := c3.up _ _ eD (by simp)
      have c4 : Ch K [] H (upd H3 D (.lst (vs ++ [V.ref tp]))) := Ch.wrN (c2.trans c3) nD eD3 rfl
      have k4 : Kt K H3 (upd H3 D (.lst (vs ++ [V.ref tp]))) := (Ch.wrL (S := [D]) eD3 (by simp)).kt
      have l1 := es.len
      rw [List.length_map, List.length_take, List.length_reverse] at l1
      refine ⟨vs, eD3, szlt (by omega), c4, _, upd_same, ?_⟩
      rw [List.take_add_one, hd', List.map_append]
      exact (es.kt (c3.kt.trans k4)).append (.cons ⟨tp, x, rfl, k4.t _ _ (SqT.of e3), rd.kt c4.kt⟩ .nil)
    · rintro H2 ⟨c2, vs, eD, es⟩
      rw [List.take_of_length_le (by rw [List.length_reverse]; omega)] at es
      have es2 : Ents K H2 vs (stk [] (b.map fun d => (d, 0))).reverse := by
        simpa [stk, List.map_map, Function.comp_def] using es
      walk_at "g"
      refine g_while ⟨fun m σ' H' => ∃ pts ds at_ wide x6 x7 x8 x9, σ' = [some (.ref ba), some (.int (nm : Nat)), some (.ref pl), some (.ref D), some (.int (at_ : Nat)), some (.int (wide : Nat)), x6, x7, x8, x9] ∧ m = szPs pts + szDs ds ∧ Ch K [] H H' ∧ BI K H' nm ps D pts ds at_ wide,
        ⟨_, [], b.map fun d => (d, 0), 0, 0, none, none, none, none, rfl, rfl, c2, ⟨⟨vs, eD, es2⟩, by simp only [szPs, szDs_map]; omega, by simp only [szPs]; omega, by simp, ?_⟩⟩, ?_⟩
      · intro x hx
        obtain ⟨d, hd, rfl⟩ := List.mem_map.mp hx
        obtain ⟨k, hk, wk⟩ := wfBs_mem wb hd
        refine ⟨by simp only; omega, ?_⟩
        have : k = 7 := by omega
        subst this
        exact wk
      · clear c2 eD es es2 vs H2
        rintro m σ' H2 ⟨pts, ds, at_, wide, x6, x7, x8, x9, rfl, rfl, c2, bi⟩
        obtain ⟨vs, eD, es⟩ := bi.e
        walk_at "g"
        refine ⟨!vs.isEmpty, .inl ⟨vs, SqL.of eD, rfl⟩, ?_⟩
        by_cases hn : stk pts ds = []
        · have : vs = [] := by
            rw [hn] at es
            cases es
            rfl
          subst this
          refine tkF rfl ?_
          walk_at "g"
          exact q H2 c2
        · obtain ⟨us, v, t, ar, rest, wide', pts', ds', eD2, ⟨tp, u, rfl, htp, ru⟩, eus, hst, lw, own, hp1, hp2, hat, har, hwd, sz', wd', wp', wdd', lt, lrest⟩ := bi.pop hn
          rw [eD] at eD2
          obtain rfl : vs = us ++ [V.ref tp] := by injection eD2 with e; injection e
          refine tkT (by simp) ⟨_, fun σ' H' h => h, ?_⟩
          have nD2 : H D = none := nD
          walk_at "g"
          refine ⟨_, _, V.ref tp, rfl, rfl, eD, by simp, ?_⟩
          rw [List.dropLast_concat]
          have c3 : Ch K [] H (upd H2 D (.lst us)) := Ch.wrN c2 nD eD rfl
          have k3 : Kt K H2 (upd H2 D (.lst us)) := (Ch.wrL (S := [D]) eD (by simp)).kt
          have eD3 : (upd H2 D (.lst us)) D = some (.lst us) := upd_same
          generalize upd H2 D (.lst us) = H3 at c3 k3 eD3 ⊢
          have htp3 := k3.t _ _ htp
          have ru3 := ru.kt k3
          have eus3 := eus.kt k3
          have hpl3 := c3.up _ _ hpl (by simp)
          walk_at "g"
          refine g_midE (fun v' H' => v' = .int (wide' : Nat) ∧ H' = H3) ?_ ?_
          · walk_at "g"
            cases hp : isP t with
            | true =>
              obtain ⟨rfl, rfl⟩ := hp1 hp
              walk_at "yes"
              exact ⟨rfl, rfl⟩
            | false =>
              obtain ⟨h0, rfl⟩ := hp2 hp
              refine tkF (decide_eq_false (fun z => by simp only [V.int.injEq] at z; omega)) ?_
              walk_at "g"
              exact ⟨rfl, rfl⟩
          · rintro _ H4 ⟨rfl, e4⟩
            rw [e4]
            clear e4 H4
            walk_at "g"
            refine g_midE (fun v' H' => v' = .str "" ∧ Ch K [] H3 H') ?_ ?_
            · refine g_orT ?_
              walk_at "g"
              refine ⟨_, _, _, rfl, by omega, by omega, by omega, ?_⟩
              refine ⟨false, tru_no, ?_⟩
              refine tkF rfl ?_
              refine g_orT ?_
              walk_at "g"
              refine ⟨u, t, nm, ps, ar, rfl, ru3, own, fun h => (hp1 h).1, fun h => (hp2 h).1, fun H4 c4 => ?_⟩
              refine ⟨false, tru_no, ?_⟩
              refine tkF rfl ?_
              walk_at "g"
              exact ⟨u, t, nm, pl, ps, rfl, ru3.kt c4.kt, c4.up _ _ hpl3 (by simp), own, fun H5 c5 => ⟨rfl, c4.trans c5⟩⟩
            · rintro _ H4 ⟨rfl, c4⟩
              have eD4 := c4.up _ _ eD3 (by simp)
              walk_at "g"
              refine ⟨false, tru_no, ?_⟩
              refine tkF rfl ?_
              walk_at "g"
              refine ⟨u, t, ar, rfl, ru3.kt c4.kt, by omega, fun H5 l5 us5 c5 n5 e5 es5 => ?_⟩
              have eD5 := c5.up _ _ eD4 (by simp)
              have l1 := eus.len
              have l2 := es5.len
              rw [List.length_reverse] at l1 l2
              walk_at "g"
              refine ⟨D, l5, us, us5, rfl, rfl, eD5, e5, szle (by omega), ?_⟩
              have c6 : Ch K [D] H5 (upd H5 D (.lst (us ++ us5))) := Ch.wrL eD5 (by simp)
              have c06 : Ch K [] H (upd H5 D (.lst (us ++ us5))) := Ch.wrN (c3.trans (c4.trans c5)) nD eD5 rfl
              walk_at "g"
              refine ⟨_, rfl, _, _, rfl, rfl, ?_⟩
              have eA : ((at_ : Nat) : Int) + 1 = ((at_ + 1 : Nat) : Int) := by omega
              refine ⟨szPs pts' + szDs ds', lt, pts', ds', at_ + 1, wide', some u, some (.int ar), some (.str ""), x9, ?_, rfl, c06, ⟨_, upd_same, ?_⟩, sz', wd', wp', wdd'⟩
              · rw [← eA]; rfl
              · rw [← hst, List.reverse_append]
                exact (eus3.kt ((c4.trans c5).kt.trans c6.kt)).append (es5.kt c6.kt)
end
end K3
end

section
set_option maxRecDepth 100000
set_option maxHeartbeats 1000000
open Bq L2
/-- one step of a reading; what is left are side goals and places to think -/
local macro_rules | `(tactic| walk_at "g1") => `(tactic| first
  | with_reducible refine' g_seq ?_ | with_reducible refine' g_asg ?_ | with_reducible refine' g_drop ?_ | with_reducible refine' g_ret ?_ | with_reducible refine' g_ifS ?_ | with_reducible refine' g_asgG ?_
  | ((with_reducible refine' g_var ?hv ?_); (case hv => rfl))
  | with_reducible refine' g_c ?_ | with_reducible refine' g_op ?_ | with_reducible refine' g_un ?_ | with_reducible refine' g_I0 ?_ | with_reducible refine' g_U ?_
  | with_reducible refine' g_test ?_ | with_reducible refine' g_tB ?_ | with_reducible refine Exists.intro _ (And.intro rfl ?_) 
  | ((with_reducible refine' g_andP ?ha ?hb ?_); (case ha => intro R q; walk_at "g"; exact q); (case hb => intro R q; walk_at "g"; exact q))
  | ((with_reducible refine' g_orP ?ha ?hb ?_); (case ha => intro R q; walk_at "g"; exact q); (case hb => intro R q; walk_at "g"; exact q))
  | with_reducible refine' g_and ?_ | with_reducible refine' g_or ?_ | with_reducible refine' g_not ?_
  | with_reducible refine' g_andV ?_ | with_reducible refine' g_orV ?_ | with_reducible refine' g_notV ?_ | with_reducible refine' g_if ?_ | with_reducible refine' g_nil ?_ | with_reducible refine' g_cons ?_
  | with_reducible refine' g_tup ?_ | with_reducible refine' g_lst ?_ | with_reducible refine' g_CB ?_ | with_reducible refine' g_Fn ?_ | with_reducible refine' g_next ?_ | with_reducible refine' g_retN ?_
  | with_reducible refine' g_name ?_ | with_reducible refine' g_sub ?_
  | ((with_reducible refine' g_ixL ?hs ?he ?_); (case hs => walk_at "lk"); (case he => walk_at "at"))
  | ((with_reducible refine' g_ixT ?hs ?he ?_); (case hs => walk_at "lk"); (case he => walk_at "at"))
  | ((with_reducible refine' g_setL ?hs ?he ?_); (case hs => walk_at "hp"); (case he => rfl))
  | ((with_reducible refine' g_app ?hs ?hz ?_); (case hs => walk_at "hp"); (case hz => walk_at "sz"))
  | ((with_reducible refine' ⟨_, _, rfl, Or.inl ?hs, ?_⟩); (case hs => walk_at "lk"))
  | ((with_reducible refine' ⟨_, _, rfl, Or.inr ?hs, ?_⟩); (case hs => walk_at "lk"))
  | with_reducible refine' g_BM ?_ | with_reducible refine' g_BM0 ?_ | ((with_reducible refine' g_tyL ?hs ?_); (case hs => walk_at "lk"))
  | with_reducible refine' g_sl ?_ | with_reducible refine' g_noPart ?_ | with_reducible refine' g_part ?_
  | ((with_reducible refine' g_inT ?hs ?fx ?fs ?_); (case hs => walk_at "lk"); (case fx => rfl); (case fs => rfl))
  | with_reducible refine' g_pair ?_ | with_reducible refine' g_pair0 ?_ | with_reducible refine' g_disp ?_
  | with_reducible refine' g_for ?_ | with_reducible refine' g_tupC ?_ | with_reducible refine' g_lstC ?_ | ((with_reducible refine' g_lens ?_)) | with_reducible refine' g_dg ?_ | with_reducible refine' g_lc ?_ | with_reducible refine' g_rng1 ?_ | with_reducible refine' g_ilist ?_ | with_reducible refine' g_itup ?_
  | ((with_reducible refine' ⟨_, _, rfl, ?hd, ?_⟩); (case hd => walk_at "dg"))
  | ((with_reducible refine' g_eqNil ?hs ?hz ?_); (case hs => walk_at "lk"); (case hz => walk_at "lk"))
  | ((with_reducible refine' g_neNil ?hs ?hz ?_); (case hs => walk_at "lk"); (case hz => walk_at "lk"))
  | with_reducible refine Or.inl ⟨_, rfl, ?_⟩
  | with_reducible refine Or.inr ⟨_, rfl, ?_⟩
  | ((with_reducible refine' g_eq ?hs ?_); (case hs => rfl))
  | ((with_reducible refine' g_ne ?hs ?_); (case hs => rfl))
  | ((with_reducible refine' g_I ?hc ?_); (case hc => walk_at "ar")))
/-- arithmetic's side conditions -/
local macro_rules | `(tactic| walk_at "ar") => `(tactic| (first
  | (show (0 : Int) < _; first | omega | decide) | (show (0 : Int) < _ ∧ _; constructor <;> omega) | (show ¬ (_ : Int) = _; omega) | (show (_ : Int) ≠ _ ∧ _; constructor <;> omega)
  | (show (-(2 ^ 64) < _ ∧ _) ∨ _; (first | (left; constructor <;> omega) | (right; constructor <;> omega))) | (show (0 : Int) ≤ _ ∧ _ ∧ _; refine ⟨by omega, by omega, by decide⟩)))
/-- what stands at an index -/
local macro_rules | `(tactic| walk_at "at") => `(tactic| first | rfl | assumption)
/-- what stands at an address -/
local macro_rules | `(tactic| walk_at "hp") => `(tactic| first | assumption | exact upd_same | ((refine' Eq.trans (upd_ne ?hn) ?hm); (case hm => walk_at "hp"); (case hn => walk_at "ne")))
/-- two places are two -/
local macro_rules | `(tactic| walk_at "ne") => `(tactic| first
  | assumption | exact Ne.symm (by assumption)
  | ((refine' ne_of_none ?ha ?hb); (case hb => assumption); (case ha => walk_at "hp")) | ((refine' Ne.symm (ne_of_none ?ha ?hb)); (case hb => assumption); (case ha => walk_at "hp")))
/-- what a dict tells -/
local macro_rules | `(tactic| walk_at "dg") => `(tactic| first | assumption)
/-- a length -/
local macro_rules | `(tactic| walk_at "sz") => `(tactic| first | (show _ ≤ sizeLine; decide) | (show _ < sizeLine; decide) | assumption | exact szlt (by simp) | exact szle (by simp))
/-- a list or tuple that stands -/
local macro_rules | `(tactic| walk_at "lk") => `(tactic| first | assumption | exact SqL.of (by assumption) | exact SqT.of (by assumption) | exact SqL.of upd_same | exact SqT.of upd_same | (refine' FzL.sq ?hm; (case hm => walk_at "fz")))
/-- a list that nobody writes -/
local macro_rules | `(tactic| walk_at "fz") => `(tactic| first | assumption | ((refine' FzL.uw ?hm ?hx); (case hx => walk_at "hp"); (case hm => walk_at "fz")) | ((refine' FzL.nw ?hm ?hx); (case hx => assumption); (case hm => walk_at "fz")))
/-- as far as it goes by itself -/
local macro_rules | `(tactic| walk_at "g") => `(tactic| repeat walk_at "g1")
/-- the body's reading, its places in short -/
local macro_rules | `(tactic| walk_at "go") => `(tactic| ((try dsimp only [cxOf, Cx.nox, Cx.wish]); walk_at "g"))
namespace K3
open PySem PySem.Spec PyProof.Rows L2 Bq
section
variable {P : Program} {w : World} {K : PySem.W.Frag} {mg : Str → Option Value} {base : Heap}
/-- further steps: dicts written, tuples taken apart -/
local macro_rules | `(tactic| walk_at "g1") => `(tactic| first
  | with_reducible refine' g_sdput ?_
  | ((with_reducible refine' g_gtup ?hs ?hl ?_); (case hs => walk_at "lk"); (case hl => rfl))
  | with_reducible refine' g_gcons ?_
  | with_reducible refine' g_gnil ?_
  | with_reducible refine' And.intro (Eq.refl V.non) ?_
  | with_reducible refine' g_isN ?_
  | ((with_reducible refine' g_chainR ?ha ?hb ?hc ?_); (case ha => intro R q; walk_at "g"; exact q); (case hb => intro R q; walk_at "g"; exact q); (case hc => intro R q; walk_at "g"; exact q))
  | with_reducible refine' g_notN ?_)
/-- what the law's dict tells -/
local macro_rules | `(tactic| walk_at "dg") => `(tactic| first
  | assumption
  | exact LH.gfuns (by assumption)
  | exact LH.gsaid (by assumption)
  | exact LH.gcells (by assumption)
  | exact LH.gfuel (by assumption)
  | exact LH.gend (by assumption)
  | exact LH.gcalls (by assumption)
  | exact LH.gnames (by assumption)
  | exact LH.gwaits (by assumption)
  | exact LH.gworth (by assumption)
  | exact LH.glook (by assumption))
/-- a test that fails, that holds, by itself -/
local macro_rules | `(tactic| walk_at "no") => `(tactic| ((refine tkF rfl ?_); walk_at "g"))
local macro_rules | `(tactic| walk_at "yes") => `(tactic| ((refine tkT rfl ?_); walk_at "g"))
local macro_rules | `(tactic| walk_at "g1") => `(tactic| first
  | with_reducible refine' g_catS ?_
  | with_reducible refine' g_mulS ?_
  | with_reducible refine' g_rev ?_)
theorem g_chainG {ta tb tc : TE} {i j k : Int} {f g : Int → Int → Bool} {σ : L2.St} {H : Hp} {Q : VK} (h1 : ∀ R : VK, R (.int i) H → ta σ H R) (h2 : ∀ R : VK, R (.int j) H → tb σ H R) (h3 : ∀ R : VK, R (.int k) H → tc σ H R)
    (q : Q (.bl (f i j && g j k)) H) : tChain (rI0 fun i j => V.bl (f i j)) (rI0 fun i j => V.bl (g i j)) ta tb tc σ H Q := by
  refine h1 _ (h2 _ (g_I0 ⟨_, rfl, ?_⟩))
  cases e : f i j with
  | false =>
    rw [if_neg Bool.false_ne_true]
    rw [e] at q
    exact q
  | true =>
    rw [if_pos rfl]
    rw [e] at q
    exact h3 _ (g_I0 q)
local macro_rules | `(tactic| walk_at "g1") => `(tactic|
  ((with_reducible refine' g_chainG ?ha ?hb ?hc ?_); (case ha => intro R q; walk_at "g"; exact q); (case hb => intro R q; walk_at "g"; exact q); (case hc => intro R q; walk_at "g"; exact q)))
/-! ### a fun, a program, fuel looked at -/
def spFunFlaw (K : PySem.W.Frag) : Sp := fun vs H Q _ => ∃ v f pl, ∃ (ps : List Nat) (k : Nat), vs = [.int (k : Nat), v, .ref pl] ∧ Rep K H v (encF f) ∧ H pl = some (.lst (ps.map fun n => V.int (n : Nat))) ∧ WfFu ps f ∧ (k = 0 → f.ps = 0) ∧ ∀ H', Ch K [] H H' → Q .non H'
theorem fn_fun_flaw (C : Cn w K mg base) : Fn P w K mg base CX0 5 "fun_flaw" ["number", "fun", "params"] (spFunFlaw K) := C.f_fun_flaw fun fd F => by
  have F_params_of : Fn P w K mg base CX0 2 "params_of" ["fun"] (spParamsOf K) := fn_params_of C
  have F_is_number : Fn P w K mg base CX0 1 "is_number" ["thing"] (spIsNum K) := fn_is_number C
  have F_body_flaw : Fn P w K mg base CX0 4 "body_flaw" ["body", "names", "params"] (spBodyFlaw K) := fn_body_flaw C
  refine F.ok (CX := CX0) sc_fun_flaw (fun vs H Q E h => ?_) (fun cdv A outer s H vs Q E hr h => ?_)
  · obtain ⟨v, f, pl, ps, k, rfl, _⟩ := h
    rfl
  · obtain ⟨v, f, pl, ps, k, rfl, rep, hpl, W, h0, q⟩ := h
    refine ⟨_, PSs.nox (pss_cons (ps_set (i := 3) sc_fun_flaw.nd rfl (Or.inl rfl) (pe_fn F_params_of (rmm hr) (by rfl) pass0 (pa_cons (pv 1) pa_nil)))
      (pss_cons (ps_set (i := 4) sc_fun_flaw.nd rfl (Or.inl rfl) (pe_mid (pe_ifExp (pt_cmpR op_gt (pv 0) pe_int (nomark _)) (pe_iglob (by rfl) C.i_MOST_PARAMS) pe_int)))
      (pss_cons (ps_if (pt_mid (PW.pt (pw_or (pt_cmpR op_isN (pv 3) pe_non (nomark _)) (pw_or1 (pt_not (pt_chain op_le op_le pe_int (pv 3) (pv 4))))))) (pss_one (ps_ret (pe_tupC (pa_cons (pe_un un_neg pe_int) (pa_cons pe_str pa_nil))))) pss_nil)
      (pss_cons (ps_asg (pv 1) (pg_tup rfl (pgs_cons (pg_name (i := 5) sc_fun_flaw.nd rfl (Or.inl rfl)) (pgs_cons (pg_name (i := 6) sc_fun_flaw.nd rfl (Or.inl rfl)) (pgs_cons (pg_name (i := 7) sc_fun_flaw.nd rfl (Or.inl rfl)) pgs_nil)))))
      (pss_cons (ps_if (pt_mid (PW.pt (pw_or (pt_not (pt_val (pe_fn F_is_number (rmm hr) (by rfl) pass0 (pa_cons (pv 6) pa_nil)))) (pw_or1 (pt_not (pt_chain op_le op_le (pv 3) (pv 6) (pe_iglob (by rfl) C.i_MOST_NAMES))))))) (pss_one (ps_ret (pe_tupC (pa_cons (pe_un un_neg pe_int) (pa_cons pe_str pa_nil))))) pss_nil)
      (pss_cons (ps_if (pt_not (pt_val (pe_callB call_isi (by rfl) (C.m_isinstance) (by decide +kernel) (pa_cons (pv 7) (pa_cons (pe_bty "tuple" (by rfl) (C.m_tuple) (by decide +kernel)) pa_nil))))) (pss_one (ps_ret (pe_tupC (pa_cons pe_int (pa_cons pe_str pa_nil))))) pss_nil)
      (pss_one (ps_ret (pe_fn F_body_flaw (rmm hr) (by rfl) pass0 (pa_cons (pv 7) (pa_cons (pv 6) (pa_cons (pv 2) pa_nil)))))))))))), ?_⟩
    have ty := rep.ty
    have p4 := W.p4
    have pn := W.pn
    have n8 := W.n8
    walk_at "go"
    refine ⟨v, f, rfl, rep, ?_⟩
    walk_at "g"
    refine g_midE (fun v' H' => v' = .int (if k = 0 then 0 else 4) ∧ H' = H) ?_ ?_
    · walk_at "g"
      by_cases hk : k = 0
      · subst hk
        walk_at "no"
        exact ⟨rfl, rfl⟩
      · refine tkT (decide_eq_true (by omega)) ?_
        walk_at "g"
        rw [if_neg hk]
        exact ⟨rfl, rfl⟩
    · rintro _ H1 ⟨rfl, e1⟩
      rw [e1]
      clear e1 H1
      walk_at "g"
      refine g_mid (fun b H' => b = false ∧ H' = H) ?_ ?_
      · walk_at "g"
        refine ⟨?_, rfl⟩
        by_cases hk : k = 0
        · rw [if_pos hk, h0 hk]
          simp
        · rw [if_neg hk]
          simp
          omega
      · rintro _ H1 ⟨rfl, e1⟩
        rw [e1]
        clear e1 H1
        walk_at "no"
        obtain ⟨ga, gvs, rfl, hga, rgs⟩ := rep.tupI
        obtain ⟨g0, gr, rfl, r0, rgs⟩ := rgs.consI
        obtain ⟨g1, gr, rfl, r1, rgs⟩ := rgs.consI
        obtain ⟨g2, gr, rfl, r2, rgs⟩ := rgs.consI
        obtain rfl := rgs.nilI
        obtain rfl := r0.intI
        obtain rfl := r1.intI
        walk_at "g"
        refine g_mid (fun b H' => b = false ∧ H' = H) ?_ ?_
        · walk_at "g"
          refine ⟨_, .int (f.nm : Nat), rfl, .int _, ?_⟩
          walk_at "g"
          walk_at "no"
          refine ⟨?_, rfl⟩
          simp
          omega
        · rintro _ H1 ⟨rfl, e1⟩
          rw [e1]
          clear e1 H1
          walk_at "no"
          refine g_isi r2.ty (kit_tuple (.tup _)) ?_
          walk_at "g"
          walk_at "no"
          exact ⟨_, f.body, f.nm, pl, ps, rfl, r2, hpl, W.wb, W.sz, fun H1 c1 => q H1 c1⟩
end
end K3
end

section
set_option maxRecDepth 100000
set_option maxHeartbeats 1000000
open Bq L2
/-- one step of a reading; what is left are side goals and places to think -/
local macro_rules | `(tactic| walk_at "g1") => `(tactic| first
  | with_reducible refine' g_seq ?_ | with_reducible refine' g_asg ?_ | with_reducible refine' g_drop ?_ | with_reducible refine' g_ret ?_ | with_reducible refine' g_ifS ?_ | with_reducible refine' g_asgG ?_
  | ((with_reducible refine' g_var ?hv ?_); (case hv => rfl))
  | with_reducible refine' g_c ?_ | with_reducible refine' g_op ?_ | with_reducible refine' g_un ?_ | with_reducible refine' g_I0 ?_ | with_reducible refine' g_U ?_
  | with_reducible refine' g_test ?_ | with_reducible refine' g_tB ?_ | with_reducible refine Exists.intro _ (And.intro rfl ?_) 
  | ((with_reducible refine' g_andP ?ha ?hb ?_); (case ha => intro R q; walk_at "g"; exact q); (case hb => intro R q; walk_at "g"; exact q))
  | ((with_reducible refine' g_orP ?ha ?hb ?_); (case ha => intro R q; walk_at "g"; exact q); (case hb => intro R q; walk_at "g"; exact q))
  | with_reducible refine' g_and ?_ | with_reducible refine' g_or ?_ | with_reducible refine' g_not ?_
  | with_reducible refine' g_andV ?_ | with_reducible refine' g_orV ?_ | with_reducible refine' g_notV ?_ | with_reducible refine' g_if ?_ | with_reducible refine' g_nil ?_ | with_reducible refine' g_cons ?_
  | with_reducible refine' g_tup ?_ | with_reducible refine' g_lst ?_ | with_reducible refine' g_CB ?_ | with_reducible refine' g_Fn ?_ | with_reducible refine' g_next ?_ | with_reducible refine' g_retN ?_
  | with_reducible refine' g_name ?_ | with_reducible refine' g_sub ?_
  | ((with_reducible refine' g_ixL ?hs ?he ?_); (case hs => walk_at "lk"); (case he => walk_at "at"))
  | ((with_reducible refine' g_ixT ?hs ?he ?_); (case hs => walk_at "lk"); (case he => walk_at "at"))
  | ((with_reducible refine' g_setL ?hs ?he ?_); (case hs => walk_at "hp"); (case he => rfl))
  | ((with_reducible refine' g_app ?hs ?hz ?_); (case hs => walk_at "hp"); (case hz => walk_at "sz"))
  | ((with_reducible refine' ⟨_, _, rfl, Or.inl ?hs, ?_⟩); (case hs => walk_at "lk"))
  | ((with_reducible refine' ⟨_, _, rfl, Or.inr ?hs, ?_⟩); (case hs => walk_at "lk"))
  | with_reducible refine' g_BM ?_ | with_reducible refine' g_BM0 ?_ | ((with_reducible refine' g_tyL ?hs ?_); (case hs => walk_at "lk"))
  | with_reducible refine' g_sl ?_ | with_reducible refine' g_noPart ?_ | with_reducible refine' g_part ?_
  | ((with_reducible refine' g_inT ?hs ?fx ?fs ?_); (case hs => walk_at "lk"); (case fx => rfl); (case fs => rfl))
  | with_reducible refine' g_pair ?_ | with_reducible refine' g_pair0 ?_ | with_reducible refine' g_disp ?_
  | with_reducible refine' g_for ?_ | with_reducible refine' g_tupC ?_ | with_reducible refine' g_lstC ?_ | ((with_reducible refine' g_lens ?_)) | with_reducible refine' g_dg ?_ | with_reducible refine' g_lc ?_ | with_reducible refine' g_rng1 ?_ | with_reducible refine' g_ilist ?_ | with_reducible refine' g_itup ?_
  | ((with_reducible refine' ⟨_, _, rfl, ?hd, ?_⟩); (case hd => walk_at "dg"))
  | ((with_reducible refine' g_eqNil ?hs ?hz ?_); (case hs => walk_at "lk"); (case hz => walk_at "lk"))
  | ((with_reducible refine' g_neNil ?hs ?hz ?_); (case hs => walk_at "lk"); (case hz => walk_at "lk"))
  | with_reducible refine Or.inl ⟨_, rfl, ?_⟩
  | with_reducible refine Or.inr ⟨_, rfl, ?_⟩
  | ((with_reducible refine' g_eq ?hs ?_); (case hs => rfl))
  | ((with_reducible refine' g_ne ?hs ?_); (case hs => rfl))
  | ((with_reducible refine' g_I ?hc ?_); (case hc => walk_at "ar")))
/-- arithmetic's side conditions -/
local macro_rules | `(tactic| walk_at "ar") => `(tactic| (first
  | (show (0 : Int) < _; first | omega | decide) | (show (0 : Int) < _ ∧ _; constructor <;> omega) | (show ¬ (_ : Int) = _; omega) | (show (_ : Int) ≠ _ ∧ _; constructor <;> omega)
  | (show (-(2 ^ 64) < _ ∧ _) ∨ _; (first | (left; constructor <;> omega) | (right; constructor <;> omega))) | (show (0 : Int) ≤ _ ∧ _ ∧ _; refine ⟨by omega, by omega, by decide⟩)))
/-- what stands at an index -/
local macro_rules | `(tactic| walk_at "at") => `(tactic| first | rfl | assumption)
/-- what stands at an address -/
local macro_rules | `(tactic| walk_at "hp") => `(tactic| first | assumption | exact upd_same | ((refine' Eq.trans (upd_ne ?hn) ?hm); (case hm => walk_at "hp"); (case hn => walk_at "ne")))
/-- two places are two -/
local macro_rules | `(tactic| walk_at "ne") => `(tactic| first
  | assumption | exact Ne.symm (by assumption)
  | ((refine' ne_of_none ?ha ?hb); (case hb => assumption); (case ha => walk_at "hp")) | ((refine' Ne.symm (ne_of_none ?ha ?hb)); (case hb => assumption); (case ha => walk_at "hp")))
/-- what a dict tells -/
local macro_rules | `(tactic| walk_at "dg") => `(tactic| first | assumption)
/-- a length -/
local macro_rules | `(tactic| walk_at "sz") => `(tactic| first | (show _ ≤ sizeLine; decide) | (show _ < sizeLine; decide) | assumption | exact szlt (by simp) | exact szle (by simp))
/-- a list or tuple that stands -/
local macro_rules | `(tactic| walk_at "lk") => `(tactic| first | assumption | exact SqL.of (by assumption) | exact SqT.of (by assumption) | exact SqL.of upd_same | exact SqT.of upd_same | (refine' FzL.sq ?hm; (case hm => walk_at "fz")))
/-- a list that nobody writes -/
local macro_rules | `(tactic| walk_at "fz") => `(tactic| first | assumption | ((refine' FzL.uw ?hm ?hx); (case hx => walk_at "hp"); (case hm => walk_at "fz")) | ((refine' FzL.nw ?hm ?hx); (case hx => assumption); (case hm => walk_at "fz")))
/-- as far as it goes by itself -/
local macro_rules | `(tactic| walk_at "g") => `(tactic| repeat walk_at "g1")
/-- the body's reading, its places in short -/
local macro_rules | `(tactic| walk_at "go") => `(tactic| ((try dsimp only [cxOf, Cx.nox, Cx.wish]); walk_at "g"))
namespace K3
open PySem PySem.Spec PyProof.Rows L2 Bq
section
variable {P : Program} {w : World} {K : PySem.W.Frag} {mg : Str → Option Value} {base : Heap}
/-- further steps: dicts written, tuples taken apart -/
local macro_rules | `(tactic| walk_at "g1") => `(tactic| first
  | with_reducible refine' g_sdput ?_
  | ((with_reducible refine' g_gtup ?hs ?hl ?_); (case hs => walk_at "lk"); (case hl => rfl))
  | with_reducible refine' g_gcons ?_
  | with_reducible refine' g_gnil ?_
  | with_reducible refine' And.intro (Eq.refl V.non) ?_
  | with_reducible refine' g_isN ?_
  | ((with_reducible refine' g_chainR ?ha ?hb ?hc ?_); (case ha => intro R q; walk_at "g"; exact q); (case hb => intro R q; walk_at "g"; exact q); (case hc => intro R q; walk_at "g"; exact q))
  | with_reducible refine' g_notN ?_)
/-- what the law's dict tells -/
local macro_rules | `(tactic| walk_at "dg") => `(tactic| first
  | assumption
  | exact LH.gfuns (by assumption)
  | exact LH.gsaid (by assumption)
  | exact LH.gcells (by assumption)
  | exact LH.gfuel (by assumption)
  | exact LH.gend (by assumption)
  | exact LH.gcalls (by assumption)
  | exact LH.gnames (by assumption)
  | exact LH.gwaits (by assumption)
  | exact LH.gworth (by assumption)
  | exact LH.glook (by assumption))
/-- a test that fails, that holds, by itself -/
local macro_rules | `(tactic| walk_at "no") => `(tactic| ((refine tkF rfl ?_); walk_at "g"))
local macro_rules | `(tactic| walk_at "yes") => `(tactic| ((refine tkT rfl ?_); walk_at "g"))
local macro_rules | `(tactic| walk_at "g1") => `(tactic| first
  | with_reducible refine' g_catS ?_
  | with_reducible refine' g_mulS ?_
  | with_reducible refine' g_rev ?_)
theorem g_chainG' {ta tb tc : TE} {i j k : Int} {f g : Int → Int → Bool} {σ : L2.St} {H : Hp} {Q : VK} (h1 : ∀ R : VK, R (.int i) H → ta σ H R) (h2 : ∀ R : VK, R (.int j) H → tb σ H R) (h3 : ∀ R : VK, R (.int k) H → tc σ H R)
    (q : Q (.bl (f i j && g j k)) H) : tChain (rI0 fun i j => V.bl (f i j)) (rI0 fun i j => V.bl (g i j)) ta tb tc σ H Q := g_chainG h1 h2 h3 q
local macro_rules | `(tactic| walk_at "g1") => `(tactic|
  ((with_reducible refine' g_chainG ?ha ?hb ?hc ?_); (case ha => intro R q; walk_at "g"; exact q); (case hb => intro R q; walk_at "g"; exact q); (case hc => intro R q; walk_at "g"; exact q)))
/-! ### fuel, a program looked at -/
def spCheck (K : PySem.W.Frag) : Sp := fun vs H Q _ => ∃ v fs, vs = [v] ∧ Rep K H v (.tup (fs.map encF)) ∧ WfPr fs ∧ ∀ H', Ch K [] H H' → Q .non H'
theorem fn_check (C : Cn w K mg base) : Fn P w K mg base CX0 6 "check_program" ["program"] (spCheck K) := C.f_check_program fun fd F => by
  have F_params_of : Fn P w K mg base CX0 2 "params_of" ["fun"] (spParamsOf K) := fn_params_of C
  have F_fun_flaw : Fn P w K mg base CX0 5 "fun_flaw" ["number", "fun", "params"] (spFunFlaw K) := fn_fun_flaw C
  refine F.ok (CX := CX0) sc_check_program (fun vs H Q E h => ?_) (fun cdv A outer s H vs Q E hr h => ?_)
  · obtain ⟨v, fs, rfl, _⟩ := h
    rfl
  · obtain ⟨v, fs, rfl, rep, W, q⟩ := h
    refine ⟨_, PSs.nox (pss_cons (ps_if (pt_mid (PW.pt (pw_or (pt_not (pt_val (pe_callB call_isi (by rfl) (C.m_isinstance) (by decide +kernel) (pa_cons (pv 0) (pa_cons (pe_bty "tuple" (by rfl) (C.m_tuple) (by decide +kernel)) pa_nil))))) (pw_or1 (pt_not (pt_chain op_le op_le pe_int (pe_callB call_len_seq (by rfl) (C.m_len) PySem.boot_len (pa_cons (pv 0) pa_nil)) (pe_iglob (by rfl) C.i_MOST_FUNS))))))) (pss_one ps_never) pss_nil)
      (pss_cons (ps_setLc (i := 2) (own := [("fun", 1)]) (g := gName 1) (tt := tYes) rfl sc_check_program.nd rfl rfl (sw_true rfl rfl rfl (by decide +kernel)) (pi_tup (pv 0)) (blkOk_by (own := [("fun", 1)]) (N := ["program", "fun", "params", "number", "flaw", "at", "why"]) (sc := defScope s_check_program) (by decide +kernel)) (fun _ _ _ _ _ => pg_name (i := 1) sc_check_program.nd rfl (Or.inl rfl)) (fun _ _ _ _ _ => pts_nil) (fun _ _ _ _ _ => (pe_fn F_params_of (rmm hr) (by rfl) pass0 (pa_cons (pv 1) pa_nil))))
      (pss_one (ps_for PassesOwn.never rfl (pi_enumA (by rfl) (C.m_enumerate) (pa_cons (pv 0) pa_nil)) (pg_tup rfl (pgs_cons (pg_name (i := 3) sc_check_program.nd rfl (Or.inl rfl)) (pgs_cons (pg_name (i := 1) sc_check_program.nd rfl (Or.inl rfl)) pgs_nil))) (pss_cons (ps_set (i := 4) sc_check_program.nd rfl (Or.inl rfl) (pe_fn F_fun_flaw (rmm hr) (by rfl) pass0 (pa_cons (pv 3) (pa_cons (pv 1) (pa_cons (pv 2) pa_nil)))))
      (pss_one (ps_if (pt_cmpR op_notN (pv 4) pe_non (nomark _)) (pss_cons (ps_asg (pv 4) (pg_tup rfl (pgs_cons (pg_name (i := 5) sc_check_program.nd rfl (Or.inl rfl)) (pgs_cons (pg_name (i := 6) sc_check_program.nd rfl (Or.inl rfl)) pgs_nil))))
      (pss_one ps_never)) pss_nil))))))), ?_⟩
    have ty := rep.ty
    have n1 := W.n1
    have n8 := W.n8
    obtain ⟨ga, gvs, rfl, hga, rgs⟩ := rep.tupI
    have hl : gvs.length = fs.length := by rw [rgs.len, List.length_map]
    walk_at "go"
    refine g_mid (fun b H' => b = false ∧ H' = H) ?_ ?_
    · walk_at "g"
      refine g_isi ty (kit_tuple (.tup (fs.map encF))) ?_
      walk_at "g"
      walk_at "no"
      refine ⟨?_, rfl⟩
      simp
      omega
    · rintro _ H1 ⟨rfl, e1⟩
      rw [e1]
      clear e1 H1
      walk_at "no"
      refine ⟨⟨_, hga⟩, fun D nD => ?_⟩
      refine lcT1 (xs := gvs) (fun i H' => Ch K [] H H' ∧ H' D = some (.lst ((fs.take i).map fun f => V.int (f.ps : Nat)))) ⟨Ch.new nD, upd_same⟩ (fun i H' _ p => p.1.sqT hga) ?_ ?_
      · rintro i x H1 hx ⟨c1, e1⟩
        obtain ⟨t, ht, rt⟩ := rgs.get hx
        obtain ⟨f, hf, rfl⟩ : ∃ f, fs[i]? = some f ∧ encF f = t := by
          rw [List.getElem?_map] at ht
          cases e : fs[i]? with
          | none => rw [e] at ht; cases ht
          | some f => rw [e] at ht; exact ⟨f, rfl, Option.some.inj ht⟩
        walk_at "g"
        refine ⟨_, f, rfl, rt.kt c1.kt, ?_⟩
        refine ⟨_, e1, szlt (by rw [List.length_map, List.length_take]; omega), Ch.wrN c1 nD e1 rfl, ?_⟩
        rw [upd_same, List.take_add_one, hf]
        simp
      · rintro H1 ⟨c1, e1⟩
        have e1' : H1 D = some (.lst ((fs.map Fu.ps).map fun n => V.int (n : Nat))) := by
          rw [e1, hl, List.take_length, List.map_map]
          rfl
        have hga1 := c1.sqT hga
        have rgs1 := rgs.kt c1.kt
        walk_at "g"
        unfold iEnumA
        walk_at "g"
        refine for_enumT (fun i σ H' => ∃ x n f, σ = [some (.ref ga), x, some (.ref D), n, f, none, none] ∧ Ch K [] H1 H') ⟨none, none, none, rfl, Ch.refl⟩ (fun i σ H' ⟨_, _, _, _, c⟩ => c.sqT hga1) ?_ ?_
        · rintro i x _ H2 T hx ⟨x0, n0, f0, rfl, c2⟩ nT
          obtain ⟨t, ht, rt⟩ := rgs1.get hx
          obtain ⟨f, hf, rfl⟩ : ∃ f, fs[i]? = some f ∧ encF f = t := by
            rw [List.getElem?_map] at ht
            cases e : fs[i]? with
            | none => rw [e] at ht; cases ht
            | some f => rw [e] at ht; exact ⟨f, rfl, Option.some.inj ht⟩
          have c3 : Ch K [] H1 (upd H2 T (.tup [.int (i : Nat), x])) := c2.trans (Ch.new nT)
          have eT : (upd H2 T (.tup [.int (i : Nat), x])) T = some (.tup [.int (i : Nat), x]) := upd_same
          generalize upd H2 T (.tup [.int (i : Nat), x]) = H3 at c3 eT ⊢
          walk_at "g"
          refine ⟨x, f, D, fs.map Fu.ps, i, rfl, rt.kt c3.kt, c3.up _ _ e1' (by simp), W.all f (List.mem_of_getElem? hf), fun z => W.f0 f (by rw [← z]; exact hf), fun H4 c4 => ?_⟩
          walk_at "g"
          walk_at "no"
          exact ⟨_, _, _, rfl, c3.trans c4⟩
        · rintro _ H2 ⟨x0, n0, f0, rfl, c2⟩
          exact q H2 ((Ch.trans c1 c2))
end
end K3
end

section
set_option maxRecDepth 100000
set_option maxHeartbeats 1000000
namespace K3
open PySem PySem.Spec PyProof.Rows L2 Bq
/-! ### texts joined, a text so many times -/
def rCatS : R2 := fun x y H Q => ∃ i j, x = .str i ∧ y = .str j ∧ i.length + j.length ≤ sizeLine ∧ Q (.str (i ++ j)) H
theorem op_catS {X : Cx} : OpR X (binaryOp .Add) rCatS := op_add_str
theorem szS {n : Nat} (h : n ≤ 4000000) : n ≤ sizeLine := Nat.le_trans h (by decide)
theorem g_catS {i j : Str} {H : Hp} {Q : VK} (h : i.length + j.length ≤ 4000000 ∧ Q (.str (i ++ j)) H) : rCatS (.str i) (.str j) H Q := ⟨i, j, rfl, rfl, szS h.1, h.2⟩
def rMulS : R2 := fun x y H Q => ∃ (z : Str) (b : Bool), x = .str z ∧ y = .int (if b = true then 1 else 0) ∧ Q (.str (if b = true then z else "")) H
theorem g_mulS {z : Str} {b : Bool} {H : Hp} {Q : VK} (q : Q (.str (if b = true then z else "")) H) : rMulS (.str z) (.int (if b = true then 1 else 0)) H Q := ⟨z, b, rfl, rfl, q⟩
theorem op_mulS {X : Cx} : OpR X (binaryOp .Mult) rMulS := by
  intro pins s σ H x y v u Q I rx ry h
  obtain ⟨z, b, rfl, rfl, q⟩ := h
  obtain ⟨t, rfl⟩ := rx
  obtain ⟨t', rfl⟩ := ry
  cases b with
  | true =>
    refine PySem.SB.mul ⟨by decide, fun _ h => by simp at h, fun _ h => by simp at h⟩ fun t2 k => ?_
    have e : PySem.Txt.mul z (if (true : Bool) = true then 1 else 0) = z := by
      unfold PySem.Txt.mul
      rw [if_pos rfl, if_neg (by decide), if_pos (by simp)]
    rw [e]
    rw [if_pos rfl] at q
    exact ⟨.str z, H, I.tok _, ⟨_, rfl⟩, q⟩
  | false =>
    refine PySem.SB.mul ⟨by decide, fun h => (h (by decide)).elim, fun h => (h (by decide)).elim⟩ fun t2 k => ?_
    have e : PySem.Txt.mul z (if (false : Bool) = true then 1 else 0) = ("" : Str) := by
      unfold PySem.Txt.mul
      rw [if_pos (by decide)]
      exact PyProof.Rows.ofString_empty.symm
    rw [e]
    rw [if_neg Bool.false_ne_true] at q
    exact ⟨.str "", H, I.tok _, ⟨_, rfl⟩, q⟩
theorem log_ok {i : Int} (h1 : -1000000 ≤ i) (h2 : i ≤ 1000000) : i.natAbs.log2 < 1920 := by
  have h3 : i.natAbs < 2 ^ 20 := by omega
  by_cases h0 : i.natAbs = 0
  · rw [h0]
    decide
  · have := (Nat.log2_lt h0).mpr h3
    omega
def hdP : Pt → List WT
  | .bin op a b => [(op.str, .str op.str)]
  | .nt a => [("not", .str "not")]
  | .get a => [("get", .str "get")]
  | .call f ps => [("call", .str "call"), (wn f, .int f), (wn ps.length, .int ps.length)]
  | _ => []
def isOp : Pt → Prop
  | .num _ => False
  | .name _ => False
  | _ => True
theorem xps_app : ∀ a b : List Pt, xps (a ++ b) = xps a ++ xps b
  | [], _ => rfl
  | p :: r, b => by
    show xp p ++ xps (r ++ b) = (xp p ++ xps r) ++ xps b
    rw [xps_app r b, List.append_assoc]
theorem hdP_xp {p : Pt} (h : isOp p) : xp p = hdP p ++ xps (innerP p) := by
  cases p with
  | num i => exact h.elim
  | name i => exact h.elim
  | bin op a b => simp only [xp, hdP, innerP, xps, List.append_nil]; rfl
  | nt a => simp only [xp, hdP, innerP, xps, List.append_nil]; rfl
  | get a => simp only [xp, hdP, innerP, xps, List.append_nil]; rfl
  | call f ps => rfl
theorem txP_inner {p : Pt} (h : txP p) : txPs (innerP p) := by
  cases p with
  | num i => trivial
  | name i => trivial
  | bin op a b => exact ⟨h.1, h.2, trivial⟩
  | nt a => exact ⟨h, trivial⟩
  | get a => exact ⟨h, trivial⟩
  | call f ps => exact h.2.2
theorem szP_inner (p : Pt) : 1 + szPs (innerP p) = szP p := by
  cases p with
  | bin op a b => simp only [innerP, szPs, szP]; omega
  | _ => simp [innerP, szPs, szP]
theorem dpP_inner {p : Pt} (h : isOp p) : 1 + dpPs (innerP p) = dpP p := by
  cases p with
  | num i => exact h.elim
  | name i => exact h.elim
  | _ => simp [innerP, dpPs, dpP]
theorem txPs_get : ∀ {ps : List Pt} {i : Nat} {q : Pt}, txPs ps → ps[i]? = some q → txP q
  | _ :: _, 0, q, h, e => by
    simp at e
    rw [← e]
    exact h.1
  | _ :: r, i + 1, q, h, e => txPs_get (ps := r) h.2 (by simpa using e)
theorem szPs_get : ∀ {ps : List Pt} {i : Nat} {q : Pt}, ps[i]? = some q → szP q ≤ szPs ps
  | p :: r, 0, q, e => by
    simp at e
    rw [← e]
    simp only [szPs]
    omega
  | p :: r, i + 1, q, e => by
    have := szPs_get (ps := r) (i := i) (q := q) (by simpa using e)
    simp only [szPs]
    omega
theorem dpPs_get : ∀ {ps : List Pt} {i : Nat} {q : Pt}, ps[i]? = some q → dpP q ≤ dpPs ps
  | p :: r, 0, q, e => by
    simp at e
    rw [← e]
    simp only [dpPs]
    omega
  | p :: r, i + 1, q, e => by
    have := dpPs_get (ps := r) (i := i) (q := q) (by simpa using e)
    simp only [dpPs]
    omega
theorem txPs_take : ∀ {ps : List Pt} (i : Nat), txPs ps → txPs (ps.take i)
  | _, 0, _ => by rw [List.take_zero]; trivial
  | [], _ + 1, h => h
  | p :: r, i + 1, h => ⟨h.1, txPs_take (ps := r) i h.2⟩
theorem szPs_take : ∀ (ps : List Pt) (i : Nat), szPs (ps.take i) ≤ szPs ps
  | _, 0 => by rw [List.take_zero]; simp [szPs]
  | [], _ + 1 => Nat.le_refl _
  | p :: r, i + 1 => by
    have := szPs_take r i
    simp only [List.take_succ_cons, szPs]
    omega
theorem take_snoc {α : Type} {l : List α} {i : Nat} {x : α} (h : l[i]? = some x) : l.take (i + 1) = l.take i ++ [x] := by
  rw [List.take_succ, h]
  rfl
theorem encPs_get : ∀ {ps : List Pt} {i : Nat} {t : T}, (encPs ps)[i]? = some t → ∃ q, ps[i]? = some q ∧ t = encP q
  | [], i, t, h => by simp [encPs] at h
  | p :: r, 0, t, h => by
    simp [encPs] at h
    exact ⟨p, rfl, h.symm⟩
  | p :: r, i + 1, t, h => by
    obtain ⟨q, a, b⟩ := encPs_get (ps := r) (i := i) (t := t) (by simpa [encPs] using h)
    exact ⟨q, by simpa using a, b⟩
theorem okW_hd {p : Pt} (h : txP p) (ho : isOp p) : okW (hdP p) := by
  have := okW_p h
  rw [hdP_xp ho] at this
  intro q hq
  exact this q (List.mem_append_left _ hq)
theorem inN_op {p : Pt} (ho : isOp p) : inV (V.str (wdT (.p p))) [V.str "num", V.str "name"] = false := by
  cases p with
  | num i => exact ho.elim
  | name i => exact ho.elim
  | bin op x y => cases op <;> (simp only [wdT, Op.str]; decide +kernel)
  | _ => simp only [wdT]; decide +kernel
theorem inN_no {p : Pt} (ho : ¬ isOp p) : inV (V.str (wdT (.p p))) [V.str "num", V.str "name"] = true := by
  cases p with
  | num i => simp only [wdT]; decide +kernel
  | name i => simp only [wdT]; decide +kernel
  | _ => exact (ho trivial).elim
theorem wlen {i : Int} (h : okS (wn i)) : (Str.ofString (toString i)).length ≤ 8 := h.1
theorem len_call : ("call " : Str).length = 5 := by decide +kernel
theorem len_sp : (" " : Str).length = 1 := by decide +kernel
theorem jn_call (f ps : Str) : jn ["call", f, ps] = "call " ++ f ++ " " ++ ps := by
  rw [jn_cons, jn_cons, jn_one, S_assoc, S_assoc, ← S_assoc, show ("call " : Str) = "call" ++ sp from by decide +kernel]
  rfl
theorem hdP_len (p : Pt) : (hdP p).length ≤ 3 := by
  cases p <;> simp [hdP]
theorem hdP_ne {p : Pt} (ho : isOp p) : hdP p ≠ [] := by
  cases p with
  | num i => exact ho.elim
  | name i => exact ho.elim
  | _ => simp [hdP]
end K3
end

section
set_option maxRecDepth 100000
set_option maxHeartbeats 1000000
namespace Bq
open PySem PySem.Spec PyProof.Rows L2
/-! ### words that are numbers, names -/
def figs : List Nat → List Nat
  | 45 :: r => r
  | l => l
def dgt (c : Nat) : Bool := decide (48 ≤ c) && decide (c ≤ 57)
def isNumL (l : List Nat) : Bool := (figs l).all dgt && !(figs l).isEmpty && decide ((figs l).length ≤ 7) && (decide ((figs l).head? ≠ some 48) || decide (l = [48]))
def numV : List Nat → Int
  | 45 :: r => -((NumText.digitsVal r : Nat) : Int)
  | l => ((NumText.digitsVal l : Nat) : Int)
def isNameL : List Nat → Bool
  | 110 :: r => isNumL r && decide (r.head? ≠ some 45)
  | _ => false
def isCntL (l : List Nat) : Bool := isNumL l && decide (0 ≤ numV l) && decide (numV l ≤ 9)
theorem tl_minus : TL.tl ("-" : Str) = [45] := by decide +kernel
theorem len_minus : ("-" : Str).length = 1 := by decide +kernel
theorem len_n : ("n" : Str).length = 1 := by decide +kernel
theorem subAt1 (w y : Str) (c : Nat) (hy : TL.tl y = [c]) (hl : y.length = 1) : Builtin.Str.subAt w y 0 = decide ((TL.tl w).head? = some c) := by
  have e := StrLaws.subAt_eq w y 0
  rw [hl] at e
  rw [e]
  show (List.take 1 (List.drop 0 (TL.tl w)) == TL.tl y) = _
  rw [hy]
  cases TL.tl w with
  | nil => rfl
  | cons a r =>
    simp only [List.drop_zero, List.take_succ_cons, List.take_zero, List.head?_cons, Option.some.injEq]
    by_cases h : a = c <;> simp [h]
theorem tl_unminus (w : Str) : TL.tl (Txt.removeprefix w "-") = figs (TL.tl w) := by
  rw [StrLaws.removeprefix_eq, subAt1 w "-" 45 tl_minus len_minus, len_minus]
  have hl : w.length = (TL.tl w).length := TL.len_tl w
  cases e : TL.tl w with
  | nil =>
    rw [e] at hl
    rw [if_neg (by simp)]
    rw [e]
    rfl
  | cons a r =>
    rw [e] at hl
    by_cases ha : a = 45
    · subst ha
      rw [if_pos (by simp [hl])]
      show (List.take (w.length - 1) (List.drop 1 (TL.tl w))).toArray.toList = _
      rw [e, hl]
      simp [figs]
    · rw [if_neg (by simp [ha]), e]
      unfold figs
      split
      · rename_i h
        cases h
        exact (ha rfl).elim
      · rfl
theorem isascii_eq (w : Str) : Txt.isascii w = (TL.tl w).all (fun c => decide (c < 128)) := by
  show w.cps.all (fun c => decide (c < 128)) = _
  rw [← Array.all_toList]
theorem dig128 {c : Nat} (h : c < 128) : Unicode.isDigit c = dgt c := by
  have k : ∀ n : _root_.Fin 128, Unicode.isDigit n.val = dgt n.val := by decide +kernel
  exact k ⟨c, h⟩
theorem all_congr {p q : Nat → Bool} : ∀ {l : List Nat}, (∀ c ∈ l, p c = q c) → l.all p = l.all q
  | [], _ => rfl
  | a :: r, h => by
    rw [List.all_cons, List.all_cons, h a (by simp), all_congr fun c hc => h c (by simp [hc])]
theorem isdigit_eq {w : Str} (h : Txt.isascii w = true) : Txt.isdigit w = (!(TL.tl w).isEmpty && (TL.tl w).all dgt) := by
  rw [isascii_eq, List.all_eq_true] at h
  show (decide (w.length > 0) && w.cps.all Unicode.isDigit) = _
  rw [← Array.all_toList, show w.cps.toList = TL.tl w from rfl, all_congr fun c hc => dig128 (by simpa using h c hc), TL.len_tl]
  cases TL.tl w with
  | nil => rfl
  | cons a r => simp
theorem digs_ascii {l : List Nat} (h : l.all dgt = true) : l.all (fun c => decide (c < 128)) = true := by
  rw [List.all_eq_true] at h ⊢
  intro c hc
  have := h c hc
  unfold dgt at this
  simp at this ⊢
  omega
theorem isNum_no {w : Str} (h : Txt.isascii (Txt.removeprefix w "-") = false) : isNumL (TL.tl w) = false := by
  rw [isascii_eq, tl_unminus] at h
  unfold isNumL
  cases e : (figs (TL.tl w)).all dgt with
  | false => rfl
  | true => rw [digs_ascii e] at h; cases h
theorem isNum_no2 {w : Str} (ha : Txt.isascii (Txt.removeprefix w "-") = true) (h : Txt.isdigit (Txt.removeprefix w "-") = false) : isNumL (TL.tl w) = false := by
  rw [isdigit_eq ha, tl_unminus] at h
  unfold isNumL
  rw [Bool.and_comm] at h
  rw [h]
  rfl
theorem allDigits_of {l : List Nat} (h : l.all dgt = true) : NumText.AllDigits l := by
  rw [List.all_eq_true] at h
  intro c hc
  have := h c hc
  unfold dgt at this
  simpa using this
theorem isNum_parts {l : List Nat} (h : isNumL l = true) : (figs l).all dgt = true ∧ figs l ≠ [] ∧ (figs l).length ≤ 7 := by
  unfold isNumL at h
  rw [Bool.and_eq_true, Bool.and_eq_true, Bool.and_eq_true] at h
  exact ⟨h.1.1.1, by simpa using h.1.1.2, by simpa using h.1.2⟩
theorem figs_len (l : List Nat) : l.length ≤ (figs l).length + 1 := by
  unfold figs
  split <;> simp
theorem figs_le (l : List Nat) : (figs l).length ≤ l.length := by
  unfold figs
  split <;> simp
theorem isNum_int {w : Str} (h : isNumL (TL.tl w) = true) : intText? w = some (numV (TL.tl w)) ∧ w.length ≤ 640 := by
  obtain ⟨h1, h2, h3⟩ := isNum_parts h
  have hl : w.length = (TL.tl w).length := TL.len_tl w
  have h4 := figs_len (TL.tl w)
  refine ⟨?_, by omega⟩
  have a := allDigits_of h1
  cases e : TL.tl w with
  | nil => rw [e] at h2; exact (h2 rfl).elim
  | cons c r =>
    rw [e] at a h2
    by_cases hc : c = 45
    · subst hc
      exact PySem.intText_neg (x := w) (cs := r) e a h2 (by omega)
    · have ef : figs (c :: r) = c :: r := by
        unfold figs
        split
        · rename_i h
          cases h
          exact (hc rfl).elim
        · rfl
      have en : numV (c :: r) = ((NumText.digitsVal (c :: r) : Nat) : Int) := by
        unfold numV
        split
        · rename_i h
          cases h
          exact (hc rfl).elim
        · rfl
      rw [ef] at a h2
      rw [en]
      have := PySem.intText_digits (x := w) (by rw [show w.cps.toList = _ from e]; exact a) (by rw [show w.cps.toList = _ from e]; exact h2) (by omega)
      rw [this, show w.cps.toList = _ from e]
/-! written numbers are such -/
theorem numL_head {n : Nat} : (TL.numL n).head? = some 48 → n = 0 := by
  induction n using Nat.strongRecOn with
  | _ n ih =>
    intro h
    by_cases hn : n < 10
    · rw [TL.numL_lt hn] at h
      simp at h
      omega
    · rw [TL.numL_step (by omega)] at h
      have hne := TL.numL_ne (n / 10)
      have e : (TL.numL (n / 10) ++ [48 + n % 10]).head? = (TL.numL (n / 10)).head? := by
        cases q : TL.numL (n / 10) with
        | nil => exact (hne q).elim
        | cons a r => rfl
      rw [e] at h
      have := ih (n / 10) (by omega) h
      omega
theorem numL_no45 (n : Nat) : figs (TL.numL n) = TL.numL n := by
  have h := TL.numL_digits n
  cases e : TL.numL n with
  | nil => rfl
  | cons c r =>
    rw [e] at h
    have := h.head
    unfold figs
    split
    · rename_i q
      cases q
      omega
    · rfl
theorem numL_dgt (n : Nat) : (TL.numL n).all dgt = true := by
  rw [List.all_eq_true]
  intro c hc
  have := TL.numL_digits n c hc
  unfold dgt
  simpa using this
theorem isNum_nat {n : Nat} (h : n ≤ 1000000) : isNumL (TL.tl (wn (n : Int))) = true ∧ numV (TL.tl (wn (n : Int))) = n := by
  rw [tl_pos]
  have hl := TL.numL_len (n := n) (k := 7) (by decide) (by omega)
  constructor
  · unfold isNumL
    rw [numL_no45, numL_dgt]
    have h1 : (TL.numL n).isEmpty = false := by
      cases e : TL.numL n with
      | nil => exact (TL.numL_ne n e).elim
      | cons c r => rfl
    rw [h1, decide_eq_true hl]
    by_cases h0 : (TL.numL n).head? = some 48
    · have := numL_head h0
      subst this
      decide +kernel
    · simp [h0]
  · have := TL.numL_val n
    have e := numL_no45 n
    unfold numV
    split
    · rename_i r q
      rw [q] at e
      exact absurd (congrArg List.length e) (by simp [figs])
    · rw [this]
theorem isNum_neg {n : Nat} (h : n + 1 ≤ 1000000) : isNumL (TL.tl (wn (Int.negSucc n))) = true ∧ numV (TL.tl (wn (Int.negSucc n))) = Int.negSucc n := by
  rw [tl_neg]
  have hl := TL.numL_len (n := n + 1) (k := 7) (by decide) (by omega)
  constructor
  · unfold isNumL
    show (((TL.numL (n + 1)).all dgt && !(TL.numL (n + 1)).isEmpty && decide ((TL.numL (n + 1)).length ≤ 7)) && (decide ((TL.numL (n + 1)).head? ≠ some 48) || _)) = true
    have h1 : (TL.numL (n + 1)).isEmpty = false := by
      cases e : TL.numL (n + 1) with
      | nil => exact (TL.numL_ne _ e).elim
      | cons c r => rfl
    rw [numL_dgt, h1, decide_eq_true hl, show decide ((TL.numL (n + 1)).head? ≠ some 48) = true from by simpa using fun h0 => by have := numL_head h0; omega]
    rfl
  · show -((NumText.digitsVal (TL.numL (n + 1)) : Nat) : Int) = _
    rw [TL.numL_val]
    rfl
theorem isNum_wn {i : Int} (h1 : -1000000 ≤ i) (h2 : i ≤ 1000000) : isNumL (TL.tl (wn i)) = true ∧ numV (TL.tl (wn i)) = i := by
  cases i with
  | ofNat n => exact isNum_nat (by have : ((n : Nat) : Int) ≤ 1000000 := h2; omega)
  | negSucc n => exact isNum_neg (by omega)
theorem starts_n (w : Str) : Txt.startswith w "n" = decide ((TL.tl w).head? = some 110) := by
  show (decide (0 + ("n" : Str).length ≤ w.length) && Builtin.Str.subAt w "n" 0) = _
  rw [subAt1 w "n" 110 (by decide +kernel) len_n, len_n, TL.len_tl]
  cases TL.tl w with
  | nil => rfl
  | cons a r => simp
theorem S_inj {a b : Str} : a = b ↔ TL.tl a = TL.tl b := ⟨fun h => by rw [h], S_ext⟩
end Bq
end

section
set_option maxRecDepth 100000
set_option maxHeartbeats 1000000
open Bq L2
/-- one step of a reading; what is left are side goals and places to think -/
local macro_rules | `(tactic| walk_at "g1") => `(tactic| first
  | with_reducible refine' g_seq ?_ | with_reducible refine' g_asg ?_ | with_reducible refine' g_drop ?_ | with_reducible refine' g_ret ?_ | with_reducible refine' g_ifS ?_ | with_reducible refine' g_asgG ?_
  | ((with_reducible refine' g_var ?hv ?_); (case hv => rfl))
  | with_reducible refine' g_c ?_ | with_reducible refine' g_op ?_ | with_reducible refine' g_un ?_ | with_reducible refine' g_I0 ?_ | with_reducible refine' g_U ?_
  | with_reducible refine' g_test ?_ | with_reducible refine' g_tB ?_ | with_reducible refine Exists.intro _ (And.intro rfl ?_) 
  | ((with_reducible refine' g_andP ?ha ?hb ?_); (case ha => intro R q; walk_at "g"; exact q); (case hb => intro R q; walk_at "g"; exact q))
  | ((with_reducible refine' g_orP ?ha ?hb ?_); (case ha => intro R q; walk_at "g"; exact q); (case hb => intro R q; walk_at "g"; exact q))
  | with_reducible refine' g_and ?_ | with_reducible refine' g_or ?_ | with_reducible refine' g_not ?_
  | with_reducible refine' g_andV ?_ | with_reducible refine' g_orV ?_ | with_reducible refine' g_notV ?_ | with_reducible refine' g_if ?_ | with_reducible refine' g_nil ?_ | with_reducible refine' g_cons ?_
  | with_reducible refine' g_tup ?_ | with_reducible refine' g_lst ?_ | with_reducible refine' g_CB ?_ | with_reducible refine' g_Fn ?_ | with_reducible refine' g_next ?_ | with_reducible refine' g_retN ?_
  | with_reducible refine' g_name ?_ | with_reducible refine' g_sub ?_
  | ((with_reducible refine' g_ixL ?hs ?he ?_); (case hs => walk_at "lk"); (case he => walk_at "at"))
  | ((with_reducible refine' g_ixT ?hs ?he ?_); (case hs => walk_at "lk"); (case he => walk_at "at"))
  | ((with_reducible refine' g_setL ?hs ?he ?_); (case hs => walk_at "hp"); (case he => rfl))
  | ((with_reducible refine' g_app ?hs ?hz ?_); (case hs => walk_at "hp"); (case hz => walk_at "sz"))
  | ((with_reducible refine' ⟨_, _, rfl, Or.inl ?hs, ?_⟩); (case hs => walk_at "lk"))
  | ((with_reducible refine' ⟨_, _, rfl, Or.inr ?hs, ?_⟩); (case hs => walk_at "lk"))
  | with_reducible refine' g_BM ?_ | with_reducible refine' g_BM0 ?_ | ((with_reducible refine' g_tyL ?hs ?_); (case hs => walk_at "lk"))
  | with_reducible refine' g_sl ?_ | with_reducible refine' g_noPart ?_ | with_reducible refine' g_part ?_
  | ((with_reducible refine' g_inT ?hs ?fx ?fs ?_); (case hs => walk_at "lk"); (case fx => rfl); (case fs => rfl))
  | with_reducible refine' g_pair ?_ | with_reducible refine' g_pair0 ?_ | with_reducible refine' g_disp ?_
  | with_reducible refine' g_for ?_ | with_reducible refine' g_tupC ?_ | with_reducible refine' g_lstC ?_ | ((with_reducible refine' g_lens ?_)) | with_reducible refine' g_dg ?_ | with_reducible refine' g_lc ?_ | with_reducible refine' g_rng1 ?_ | with_reducible refine' g_ilist ?_ | with_reducible refine' g_itup ?_
  | ((with_reducible refine' ⟨_, _, rfl, ?hd, ?_⟩); (case hd => walk_at "dg"))
  | ((with_reducible refine' g_eqNil ?hs ?hz ?_); (case hs => walk_at "lk"); (case hz => walk_at "lk"))
  | ((with_reducible refine' g_neNil ?hs ?hz ?_); (case hs => walk_at "lk"); (case hz => walk_at "lk"))
  | with_reducible refine Or.inl ⟨_, rfl, ?_⟩
  | with_reducible refine Or.inr ⟨_, rfl, ?_⟩
  | ((with_reducible refine' g_eq ?hs ?_); (case hs => rfl))
  | ((with_reducible refine' g_ne ?hs ?_); (case hs => rfl))
  | ((with_reducible refine' g_I ?hc ?_); (case hc => walk_at "ar")))
/-- arithmetic's side conditions -/
local macro_rules | `(tactic| walk_at "ar") => `(tactic| (first
  | (show (0 : Int) < _; first | omega | decide) | (show (0 : Int) < _ ∧ _; constructor <;> omega) | (show ¬ (_ : Int) = _; omega) | (show (_ : Int) ≠ _ ∧ _; constructor <;> omega)
  | (show (-(2 ^ 64) < _ ∧ _) ∨ _; (first | (left; constructor <;> omega) | (right; constructor <;> omega))) | (show (0 : Int) ≤ _ ∧ _ ∧ _; refine ⟨by omega, by omega, by decide⟩)))
/-- what stands at an index -/
local macro_rules | `(tactic| walk_at "at") => `(tactic| first | rfl | assumption)
/-- what stands at an address -/
local macro_rules | `(tactic| walk_at "hp") => `(tactic| first | assumption | exact upd_same | ((refine' Eq.trans (upd_ne ?hn) ?hm); (case hm => walk_at "hp"); (case hn => walk_at "ne")))
/-- two places are two -/
local macro_rules | `(tactic| walk_at "ne") => `(tactic| first
  | assumption | exact Ne.symm (by assumption)
  | ((refine' ne_of_none ?ha ?hb); (case hb => assumption); (case ha => walk_at "hp")) | ((refine' Ne.symm (ne_of_none ?ha ?hb)); (case hb => assumption); (case ha => walk_at "hp")))
/-- what a dict tells -/
local macro_rules | `(tactic| walk_at "dg") => `(tactic| first | assumption)
/-- a length -/
local macro_rules | `(tactic| walk_at "sz") => `(tactic| first | (show _ ≤ sizeLine; decide) | (show _ < sizeLine; decide) | assumption | exact szlt (by simp) | exact szle (by simp))
/-- a list or tuple that stands -/
local macro_rules | `(tactic| walk_at "lk") => `(tactic| first | assumption | exact SqL.of (by assumption) | exact SqT.of (by assumption) | exact SqL.of upd_same | exact SqT.of upd_same | (refine' FzL.sq ?hm; (case hm => walk_at "fz")))
/-- a list that nobody writes -/
local macro_rules | `(tactic| walk_at "fz") => `(tactic| first | assumption | ((refine' FzL.uw ?hm ?hx); (case hx => walk_at "hp"); (case hm => walk_at "fz")) | ((refine' FzL.nw ?hm ?hx); (case hx => assumption); (case hm => walk_at "fz")))
/-- as far as it goes by itself -/
local macro_rules | `(tactic| walk_at "g") => `(tactic| repeat walk_at "g1")
/-- the body's reading, its places in short -/
local macro_rules | `(tactic| walk_at "go") => `(tactic| ((try dsimp only [cxOf, Cx.nox, Cx.wish]); walk_at "g"))
namespace K3
open PySem PySem.Spec PyProof.Rows L2 Bq
section
variable {P : Program} {w : World} {K : PySem.W.Frag} {mg : Str → Option Value} {base : Heap}
/-- further steps: dicts written, tuples taken apart -/
local macro_rules | `(tactic| walk_at "g1") => `(tactic| first
  | with_reducible refine' g_sdput ?_
  | ((with_reducible refine' g_gtup ?hs ?hl ?_); (case hs => walk_at "lk"); (case hl => rfl))
  | with_reducible refine' g_gcons ?_
  | with_reducible refine' g_gnil ?_
  | with_reducible refine' And.intro (Eq.refl V.non) ?_
  | with_reducible refine' g_isN ?_
  | ((with_reducible refine' g_chainR ?ha ?hb ?hc ?_); (case ha => intro R q; walk_at "g"; exact q); (case hb => intro R q; walk_at "g"; exact q); (case hc => intro R q; walk_at "g"; exact q))
  | with_reducible refine' g_notN ?_)
/-- what the law's dict tells -/
local macro_rules | `(tactic| walk_at "dg") => `(tactic| first
  | assumption
  | exact LH.gfuns (by assumption)
  | exact LH.gsaid (by assumption)
  | exact LH.gcells (by assumption)
  | exact LH.gfuel (by assumption)
  | exact LH.gend (by assumption)
  | exact LH.gcalls (by assumption)
  | exact LH.gnames (by assumption)
  | exact LH.gwaits (by assumption)
  | exact LH.gworth (by assumption)
  | exact LH.glook (by assumption))
/-- a test that fails, that holds, by itself -/
local macro_rules | `(tactic| walk_at "no") => `(tactic| ((refine tkF rfl ?_); walk_at "g"))
local macro_rules | `(tactic| walk_at "yes") => `(tactic| ((refine tkT rfl ?_); walk_at "g"))
local macro_rules | `(tactic| walk_at "g1") => `(tactic| first
  | with_reducible refine' g_catS ?_
  | with_reducible refine' g_mulS ?_
  | with_reducible refine' g_rev ?_)
section
variable {to te : TE} {r : V → List V → Hp → VK → Prop} {σ : L2.St} {H : Hp} {Q : VK} {w z : Str}
theorem g_tm0 (h : to σ H fun x H1 => (∃ a, x = .str a) ∧ r x [] H1 Q) : tM0 r to σ H Q := h
theorem g_tm1 (h : to σ H fun x H1 => (∃ a, x = .str a) ∧ te σ H1 fun y H2 => r x [y] H2 Q) : tM1 r to te σ H Q := h
theorem g_str0 {A : Prop} (h : A) : (∃ a, V.str w = .str a) ∧ A := ⟨⟨_, rfl⟩, h⟩
theorem g_isdig {g : Str → V} (q : Q (g w) H) : ∃ a, V.str w = .str a ∧ ([] : List V) = [] ∧ True ∧ Q (g a) H := ⟨_, rfl, rfl, trivial, q⟩
theorem g_isasc {g : Str → V} {C : Str → Prop} (q : C w ∧ Q (g w) H) : ∃ a, V.str w = .str a ∧ ([] : List V) = [] ∧ C a ∧ Q (g a) H := ⟨_, rfl, rfl, q.1, q.2⟩
theorem g_starts {g : Str → Str → V} (q : Q (g w z) H) : ∃ a b, V.str w = .str a ∧ [V.str z] = [.str b] ∧ Q (g a b) H := ⟨_, _, rfl, rfl, q⟩
theorem g_revL {te : TE} (h : te σ H fun x H1 => ∃ a xs, x = .ref a ∧ SqL K H1 a xs ∧ ∀ p, H1 p = none → Q (.ref p) (upd H1 p (.lst xs.reverse))) : tRevL K te σ H Q := h
theorem g_nilTrue {A : Prop} (h : A) : ([] : List V) = [] ∧ True ∧ A := ⟨rfl, trivial, h⟩
theorem g_chainT {ta tb tc : TE} {r1 r2 : R2} (h : ta σ H fun x H1 => tb σ H1 fun y H2 => r1 x y H2 fun v H3 => ∃ b, v = .bl b ∧ if b = true then tc σ H3 fun z H4 => r2 y z H4 Q else Q (.bl false) H3) : tChain r1 r2 ta tb tc σ H Q := h
end
/-- texts: methods, signs, slices -/
local macro_rules | `(tactic| walk_at "g1") => `(tactic| first
  | with_reducible refine' g_tm0 ?_
  | with_reducible refine' g_tm1 ?_
  | with_reducible refine' g_isdig ?_
  | with_reducible refine' g_isasc ?_
  | with_reducible refine' g_starts ?_
  | with_reducible refine' g_str0 ?_
  | with_reducible refine' g_revL ?_
  | with_reducible refine' g_nilTrue ?_
  | with_reducible refine' g_chainT ?_)
def spIsNumW : Sp := fun vs H Q _ => ∃ w, vs = [.str w] ∧ w.length ≤ 4000000 ∧ Q (.bl (isNumL (TL.tl w))) H
theorem decS (a b : Str) : decide (V.str a = V.str b) = decide (TL.tl a = TL.tl b) := by
  have : (V.str a = V.str b) ↔ (TL.tl a = TL.tl b) := ⟨fun h => by cases h; rfl, fun h => by rw [S_ext h]⟩
  exact decide_eq_decide.mpr this
theorem tl_zero : TL.tl ("0" : Str) = [48] := by decide +kernel
theorem tl_neg1 : TL.tl ("-" : Str) = [45] := by decide +kernel
theorem tl_ch (c : Nat) : TL.tl (⟨#[c]⟩ : Str) = [c] := rfl
theorem fn_is_number_word (C : Cn w K mg base) : Fn P w K mg base CX0 2 "is_number_word" ["word"] spIsNumW := C.f_is_number_word fun fd F => by
  refine F.ok (CX := CX0) sc_is_number_word (fun vs H Q E h => ?_) (fun cdv A outer s H vs Q E hr h => ?_)
  · obtain ⟨z, rfl, _⟩ := h
    rfl
  · obtain ⟨z, rfl, hz, q⟩ := h
    refine ⟨_, PSs.nox (pss_cons (ps_set (i := 1) sc_is_number_word.nd rfl (Or.inl rfl) (pe_m1 PySem.F.slot_str_removeprefix PySem.F.type_str_removeprefix mt_removeprefix (pv 0) pe_str))
      (Evl.pss_cut (ps_if (pt_mid (PW.pt (pw_or (pt_not (pt_val (pe_m0 PySem.F.slot_str_isascii PySem.F.type_str_isascii mt_isascii (pv 1)))) (pw_or (pt_not (pt_val (pe_m0 PySem.F.slot_str_isdigit PySem.F.type_str_isdigit mt_isdigit (pv 1)))) (pw_or1 (pt_cmpR op_gt (pe_callB call_len_str (by rfl) (C.m_len) PySem.boot_len (pa_cons (pv 1) pa_nil)) (pe_iglob (by rfl) C.i_MOST_FIGURES) (nomark _))))))) (pss_one (ps_ret pe_bl)) pss_nil)
      (pss_one (ps_ret (pe_or (pe_cmpR op_ne (pe_ix ix_str (pv 1) pe_int (fun _ _ => rfl)) pe_str (nomark _)) (pe_one (pe_cmpR op_eq (pv 0) pe_str (nomark _)))))))), ?_⟩
    walk_at "go"
    refine ⟨_, _, rfl, rfl, szS hz, ?_⟩
    walk_at "g"
    have ef := tl_unminus z
    have lf : (Txt.removeprefix z (Str.ofString "-")).length = (figs (TL.tl z)).length := by rw [TL.len_tl]; exact congrArg _ ef
    refine g_cut (Mid := fun σ' H' => σ' = [some (.str z), some (.str (Txt.removeprefix z (Str.ofString "-")))] ∧ H' = H ∧ (figs (TL.tl z)).all dgt = true ∧ figs (TL.tl z) ≠ [] ∧ (figs (TL.tl z)).length ≤ 7) ?_ ?_
    · walk_at "g"
      refine g_mid (fun b H' => b = !((figs (TL.tl z)).all dgt && !(figs (TL.tl z)).isEmpty && decide ((figs (TL.tl z)).length ≤ 7)) ∧ H' = H) ?_ ?_
      · walk_at "g"
        cases ha : Txt.isascii (Txt.removeprefix z (Str.ofString "-")) with
        | false =>
          walk_at "yes"
          refine ⟨?_, rfl⟩
          rw [isascii_eq, show TL.tl (Txt.removeprefix z (Str.ofString "-")) = _ from ef] at ha
          cases e : (figs (TL.tl z)).all dgt with
          | false => rfl
          | true => rw [digs_ascii e] at ha; cases ha
        | true =>
          walk_at "no"
          have hd := isdigit_eq ha
          rw [show TL.tl (Txt.removeprefix z (Str.ofString "-")) = _ from ef] at hd
          rw [hd]
          cases he : (!(figs (TL.tl z)).isEmpty && (figs (TL.tl z)).all dgt) with
          | false =>
            walk_at "yes"
            refine ⟨?_, rfl⟩
            rw [Bool.and_comm] at he
            rw [he]
            rfl
          | true =>
            walk_at "no"
            refine ⟨szS (by have h2 := figs_le (TL.tl z); have h4 : z.length = (TL.tl z).length := TL.len_tl z; rw [lf]; omega), ?_⟩
            rw [lf]
            walk_at "g"
            refine ⟨?_, rfl⟩
            rw [Bool.and_comm] at he
            rw [he, Bool.true_and]
            by_cases h7 : (figs (TL.tl z)).length ≤ 7
            · simp [h7]; omega
            · simp [h7]; omega
      · rintro b H1 ⟨rfl, e1⟩
        rw [e1]
        refine iteB (fun h => ?_) (fun h => ?_)
        · walk_at "g"
          have : isNumL (TL.tl z) = false := by
            unfold isNumL
            rw [Bool.not_eq_true'] at h
            rw [h]
            rfl
          rw [this] at q
          exact q
        · walk_at "g"
          rw [Bool.not_eq_false', Bool.and_eq_true, Bool.and_eq_true] at h
          exact ⟨rfl, rfl, h.1.1, by simpa using h.1.2, by simpa using h.2⟩
    · rintro _ _ ⟨rfl, rfl, h1, h2, h3⟩
      walk_at "g"
      obtain ⟨c, r, e⟩ : ∃ c r, figs (TL.tl z) = c :: r := by
        cases e : figs (TL.tl z) with
        | nil => exact (h2 e).elim
        | cons c r => exact ⟨c, r, rfl⟩
      have at0 : atI (Txt.removeprefix z (Str.ofString "-")).cps.toList 0 = some c := by
        show atI (TL.tl (Txt.removeprefix z (Str.ofString "-"))) 0 = some c
        rw [show TL.tl (Txt.removeprefix z (Str.ofString "-")) = _ from ef, e]
        exact atI_nat (j := 0) rfl
      refine ⟨_, _, c, rfl, rfl, szS (by rw [lf]; omega), at0, ?_⟩
      walk_at "g"
      rw [decS, tl_ch, show TL.tl (Str.ofString "0") = [48] from tl_zero]
      have hI : isNumL (TL.tl z) = (!decide ([c] = [48]) || decide (TL.tl z = [48])) := by
        unfold isNumL
        rw [h1, decide_eq_true h3, e]
        by_cases hc : c = 48 <;> simp [hc]
      cases hc : (!decide ([c] = [48])) with
      | true =>
        rw [hc] at hI
        rw [hI] at q
        refine tkT rfl ?_
        exact q
      | false =>
        walk_at "no"
        rw [decS, show TL.tl (Str.ofString "0") = [48] from tl_zero]
        rw [hc] at hI
        rw [hI] at q
        exact q
end
end K3
end

section
set_option maxRecDepth 100000
set_option maxHeartbeats 1000000
open Bq L2
/-- one step of a reading; what is left are side goals and places to think -/
local macro_rules | `(tactic| walk_at "g1") => `(tactic| first
  | with_reducible refine' g_seq ?_ | with_reducible refine' g_asg ?_ | with_reducible refine' g_drop ?_ | with_reducible refine' g_ret ?_ | with_reducible refine' g_ifS ?_ | with_reducible refine' g_asgG ?_
  | ((with_reducible refine' g_var ?hv ?_); (case hv => rfl))
  | with_reducible refine' g_c ?_ | with_reducible refine' g_op ?_ | with_reducible refine' g_un ?_ | with_reducible refine' g_I0 ?_ | with_reducible refine' g_U ?_
  | with_reducible refine' g_test ?_ | with_reducible refine' g_tB ?_ | with_reducible refine Exists.intro _ (And.intro rfl ?_) 
  | ((with_reducible refine' g_andP ?ha ?hb ?_); (case ha => intro R q; walk_at "g"; exact q); (case hb => intro R q; walk_at "g"; exact q))
  | ((with_reducible refine' g_orP ?ha ?hb ?_); (case ha => intro R q; walk_at "g"; exact q); (case hb => intro R q; walk_at "g"; exact q))
  | with_reducible refine' g_and ?_ | with_reducible refine' g_or ?_ | with_reducible refine' g_not ?_
  | with_reducible refine' g_andV ?_ | with_reducible refine' g_orV ?_ | with_reducible refine' g_notV ?_ | with_reducible refine' g_if ?_ | with_reducible refine' g_nil ?_ | with_reducible refine' g_cons ?_
  | with_reducible refine' g_tup ?_ | with_reducible refine' g_lst ?_ | with_reducible refine' g_CB ?_ | with_reducible refine' g_Fn ?_ | with_reducible refine' g_next ?_ | with_reducible refine' g_retN ?_
  | with_reducible refine' g_name ?_ | with_reducible refine' g_sub ?_
  | ((with_reducible refine' g_ixL ?hs ?he ?_); (case hs => walk_at "lk"); (case he => walk_at "at"))
  | ((with_reducible refine' g_ixT ?hs ?he ?_); (case hs => walk_at "lk"); (case he => walk_at "at"))
  | ((with_reducible refine' g_setL ?hs ?he ?_); (case hs => walk_at "hp"); (case he => rfl))
  | ((with_reducible refine' g_app ?hs ?hz ?_); (case hs => walk_at "hp"); (case hz => walk_at "sz"))
  | ((with_reducible refine' ⟨_, _, rfl, Or.inl ?hs, ?_⟩); (case hs => walk_at "lk"))
  | ((with_reducible refine' ⟨_, _, rfl, Or.inr ?hs, ?_⟩); (case hs => walk_at "lk"))
  | with_reducible refine' g_BM ?_ | with_reducible refine' g_BM0 ?_ | ((with_reducible refine' g_tyL ?hs ?_); (case hs => walk_at "lk"))
  | with_reducible refine' g_sl ?_ | with_reducible refine' g_noPart ?_ | with_reducible refine' g_part ?_
  | ((with_reducible refine' g_inT ?hs ?fx ?fs ?_); (case hs => walk_at "lk"); (case fx => rfl); (case fs => rfl))
  | with_reducible refine' g_pair ?_ | with_reducible refine' g_pair0 ?_ | with_reducible refine' g_disp ?_
  | with_reducible refine' g_for ?_ | with_reducible refine' g_tupC ?_ | with_reducible refine' g_lstC ?_ | ((with_reducible refine' g_lens ?_)) | with_reducible refine' g_dg ?_ | with_reducible refine' g_lc ?_ | with_reducible refine' g_rng1 ?_ | with_reducible refine' g_ilist ?_ | with_reducible refine' g_itup ?_
  | ((with_reducible refine' ⟨_, _, rfl, ?hd, ?_⟩); (case hd => walk_at "dg"))
  | ((with_reducible refine' g_eqNil ?hs ?hz ?_); (case hs => walk_at "lk"); (case hz => walk_at "lk"))
  | ((with_reducible refine' g_neNil ?hs ?hz ?_); (case hs => walk_at "lk"); (case hz => walk_at "lk"))
  | with_reducible refine Or.inl ⟨_, rfl, ?_⟩
  | with_reducible refine Or.inr ⟨_, rfl, ?_⟩
  | ((with_reducible refine' g_eq ?hs ?_); (case hs => rfl))
  | ((with_reducible refine' g_ne ?hs ?_); (case hs => rfl))
  | ((with_reducible refine' g_I ?hc ?_); (case hc => walk_at "ar")))
/-- arithmetic's side conditions -/
local macro_rules | `(tactic| walk_at "ar") => `(tactic| (first
  | (show (0 : Int) < _; first | omega | decide) | (show (0 : Int) < _ ∧ _; constructor <;> omega) | (show ¬ (_ : Int) = _; omega) | (show (_ : Int) ≠ _ ∧ _; constructor <;> omega)
  | (show (-(2 ^ 64) < _ ∧ _) ∨ _; (first | (left; constructor <;> omega) | (right; constructor <;> omega))) | (show (0 : Int) ≤ _ ∧ _ ∧ _; refine ⟨by omega, by omega, by decide⟩)))
/-- what stands at an index -/
local macro_rules | `(tactic| walk_at "at") => `(tactic| first | rfl | assumption)
/-- what stands at an address -/
local macro_rules | `(tactic| walk_at "hp") => `(tactic| first | assumption | exact upd_same | ((refine' Eq.trans (upd_ne ?hn) ?hm); (case hm => walk_at "hp"); (case hn => walk_at "ne")))
/-- two places are two -/
local macro_rules | `(tactic| walk_at "ne") => `(tactic| first
  | assumption | exact Ne.symm (by assumption)
  | ((refine' ne_of_none ?ha ?hb); (case hb => assumption); (case ha => walk_at "hp")) | ((refine' Ne.symm (ne_of_none ?ha ?hb)); (case hb => assumption); (case ha => walk_at "hp")))
/-- what a dict tells -/
local macro_rules | `(tactic| walk_at "dg") => `(tactic| first | assumption)
/-- a length -/
local macro_rules | `(tactic| walk_at "sz") => `(tactic| first | (show _ ≤ sizeLine; decide) | (show _ < sizeLine; decide) | assumption | exact szlt (by simp) | exact szle (by simp))
/-- a list or tuple that stands -/
local macro_rules | `(tactic| walk_at "lk") => `(tactic| first | assumption | exact SqL.of (by assumption) | exact SqT.of (by assumption) | exact SqL.of upd_same | exact SqT.of upd_same | (refine' FzL.sq ?hm; (case hm => walk_at "fz")))
/-- a list that nobody writes -/
local macro_rules | `(tactic| walk_at "fz") => `(tactic| first | assumption | ((refine' FzL.uw ?hm ?hx); (case hx => walk_at "hp"); (case hm => walk_at "fz")) | ((refine' FzL.nw ?hm ?hx); (case hx => assumption); (case hm => walk_at "fz")))
/-- as far as it goes by itself -/
local macro_rules | `(tactic| walk_at "g") => `(tactic| repeat walk_at "g1")
/-- the body's reading, its places in short -/
local macro_rules | `(tactic| walk_at "go") => `(tactic| ((try dsimp only [cxOf, Cx.nox, Cx.wish]); walk_at "g"))
namespace K3
open PySem PySem.Spec PyProof.Rows L2 Bq
section
variable {P : Program} {w : World} {K : PySem.W.Frag} {mg : Str → Option Value} {base : Heap}
/-- further steps: dicts written, tuples taken apart -/
local macro_rules | `(tactic| walk_at "g1") => `(tactic| first
  | with_reducible refine' g_sdput ?_
  | ((with_reducible refine' g_gtup ?hs ?hl ?_); (case hs => walk_at "lk"); (case hl => rfl))
  | with_reducible refine' g_gcons ?_
  | with_reducible refine' g_gnil ?_
  | with_reducible refine' And.intro (Eq.refl V.non) ?_
  | with_reducible refine' g_isN ?_
  | ((with_reducible refine' g_chainR ?ha ?hb ?hc ?_); (case ha => intro R q; walk_at "g"; exact q); (case hb => intro R q; walk_at "g"; exact q); (case hc => intro R q; walk_at "g"; exact q))
  | with_reducible refine' g_notN ?_)
/-- what the law's dict tells -/
local macro_rules | `(tactic| walk_at "dg") => `(tactic| first
  | assumption
  | exact LH.gfuns (by assumption)
  | exact LH.gsaid (by assumption)
  | exact LH.gcells (by assumption)
  | exact LH.gfuel (by assumption)
  | exact LH.gend (by assumption)
  | exact LH.gcalls (by assumption)
  | exact LH.gnames (by assumption)
  | exact LH.gwaits (by assumption)
  | exact LH.gworth (by assumption)
  | exact LH.glook (by assumption))
/-- a test that fails, that holds, by itself -/
local macro_rules | `(tactic| walk_at "no") => `(tactic| ((refine tkF rfl ?_); walk_at "g"))
local macro_rules | `(tactic| walk_at "yes") => `(tactic| ((refine tkT rfl ?_); walk_at "g"))
local macro_rules | `(tactic| walk_at "g1") => `(tactic| first
  | with_reducible refine' g_catS ?_
  | with_reducible refine' g_mulS ?_
  | with_reducible refine' g_rev ?_)
/-- texts: methods, signs, slices -/
local macro_rules | `(tactic| walk_at "g1") => `(tactic| first
  | with_reducible refine' g_tm0 ?_
  | with_reducible refine' g_tm1 ?_
  | with_reducible refine' g_isdig ?_
  | with_reducible refine' g_isasc ?_
  | with_reducible refine' g_starts ?_
  | with_reducible refine' g_str0 ?_
  | with_reducible refine' g_revL ?_
  | with_reducible refine' g_nilTrue ?_
  | with_reducible refine' g_chainT ?_)
def spIsNameW : Sp := fun vs H Q _ => ∃ w, vs = [.str w] ∧ w.length ≤ 4000000 ∧ Q (.bl (isNameL (TL.tl w))) H
def spIsCntW : Sp := fun vs H Q _ => ∃ w, vs = [.str w] ∧ w.length ≤ 4000000 ∧ Q (.bl (isCntL (TL.tl w))) H
theorem cut1 {z : Str} {c : Nat} {r : List Nat} (h : TL.tl z = c :: r) : TL.tl (cutS z (some 1) none) = r := cutS_from1 c z h
theorem cutS_le (z : Str) (c : Nat) (r : List Nat) (h : TL.tl z = c :: r) (hz : z.length ≤ 4000000) : (cutS z (some 1) none).length ≤ 4000000 := by
  have := cut1 h
  rw [TL.len_tl, this]
  rw [TL.len_tl, h] at hz
  simp at hz
  omega
theorem fn_is_name_word (C : Cn w K mg base) : Fn P w K mg base CX0 3 "is_name_word" ["word"] spIsNameW := C.f_is_name_word fun fd F => by
  have F_is_number_word : Fn P w K mg base CX0 2 "is_number_word" ["word"] spIsNumW := fn_is_number_word C
  refine F.ok (CX := CX0) sc_is_name_word (fun vs H Q E h => ?_) (fun cdv A outer s H vs Q E hr h => ?_)
  · obtain ⟨z, rfl, _⟩ := h
    rfl
  · obtain ⟨z, rfl, hz, q⟩ := h
    refine ⟨_, PSs.nox (pss_one (ps_ret (pe_mid (pe_and (pe_m1 PySem.F.slot_str_startswith PySem.F.type_str_startswith mt_startswith (pv 0) pe_str) (pe_and (pe_fn F_is_number_word (rmm hr) (by rfl) pass0 (pa_cons (pe_slice sl_str (pv 0) (po_some pe_int) po_none) pa_nil)) (pe_one (pe_cmpR op_ne (pe_ix ix_str (pv 0) pe_int (fun _ _ => rfl)) pe_str (nomark _)))))))), ?_⟩
    walk_at "go"
    refine g_midE (fun v H' => v = .bl (isNameL (TL.tl z)) ∧ H' = H) ?_ ?_
    · walk_at "g"
      refine ⟨_, _, rfl, rfl, ?_⟩
      rw [show Txt.startswith z (Str.ofString "n") = _ from starts_n z]
      walk_at "g"
      by_cases h : (TL.tl z).head? = some 110
      · obtain ⟨r, e⟩ : ∃ r, TL.tl z = 110 :: r := by
          cases e : TL.tl z with
          | nil => rw [e] at h; cases h
          | cons a r =>
            rw [e] at h
            simp at h
            exact ⟨r, by rw [h]⟩
        refine tkT (by simp [h]) ?_
        walk_at "g"
        refine ⟨_, rfl, szS hz, ?_⟩
        walk_at "g"
        refine ⟨_, rfl, cutS_le z _ _ e hz, ?_⟩
        rw [cut1 e]
        walk_at "g"
        cases hn : isNumL r with
        | false =>
          walk_at "no"
          rw [e]
          simp [isNameL, hn]
        | true =>
          walk_at "yes"
          obtain ⟨c, r2, er⟩ : ∃ c r2, r = c :: r2 := by
            cases r with
            | nil => exact absurd (isNum_parts hn).2.1 (by simp [figs])
            | cons c r2 => exact ⟨c, r2, rfl⟩
          have at1 : atI z.cps.toList 1 = some c := by
            show atI (TL.tl z) 1 = some c
            rw [e, er]
            exact atI_nat (j := 1) rfl
          refine ⟨_, _, c, rfl, rfl, szS hz, at1, ?_⟩
          walk_at "g"
          refine ⟨?_, rfl⟩
          rw [e, decS, tl_ch, show TL.tl (Str.ofString "-") = [45] from tl_neg1]
          rw [er] at hn
          simp only [isNameL, er, hn, Bool.true_and, List.head?_cons]
          by_cases hc : c = 45 <;> simp [hc]
      · refine tkF (by simp [h]) ?_
        walk_at "g"
        refine ⟨?_, rfl⟩
        have : isNameL (TL.tl z) = false := by
          unfold isNameL
          split
          · rename_i r e
            rw [e] at h
            exact (h rfl).elim
          · rfl
        rw [this]
    · rintro _ H1 ⟨rfl, e1⟩
      rw [e1]
      exact q
theorem fn_is_count_word (C : Cn w K mg base) : Fn P w K mg base CX0 3 "is_count_word" ["word"] spIsCntW := C.f_is_count_word fun fd F => by
  have F_is_number_word : Fn P w K mg base CX0 2 "is_number_word" ["word"] spIsNumW := fn_is_number_word C
  refine F.ok (CX := CX0) sc_is_count_word (fun vs H Q E h => ?_) (fun cdv A outer s H vs Q E hr h => ?_)
  · obtain ⟨z, rfl, _⟩ := h
    rfl
  · obtain ⟨z, rfl, hz, q⟩ := h
    refine ⟨_, PSs.nox (pss_one (ps_ret (pe_mid (pe_and (pe_fn F_is_number_word (rmm hr) (by rfl) pass0 (pa_cons (pv 0) pa_nil)) (pe_one (pe_chain op_le op_le pe_int (pe_callTy call_int_str (by rfl) (C.m_int) (by decide +kernel) (pa_cons (pv 0) pa_nil)) (pe_iglob (by rfl) C.i_MOST_READ_PARTS))))))), ?_⟩
    walk_at "go"
    refine g_midE (fun v H' => v = .bl (isCntL (TL.tl z)) ∧ H' = H) ?_ ?_
    · walk_at "g"
      refine ⟨z, rfl, hz, ?_⟩
      walk_at "g"
      cases hn : isNumL (TL.tl z) with
      | false =>
        walk_at "no"
        simp [isCntL, hn]
      | true =>
        walk_at "yes"
        obtain ⟨i1, i2⟩ := isNum_int hn
        refine ⟨_, _, rfl, i1, i2, ?_⟩
        walk_at "g"
        by_cases h0 : 0 ≤ numV (TL.tl z)
        · refine tkT (by simpa using h0) ?_
          walk_at "g"
          simp [isCntL, hn, h0]
        · refine tkF (by simpa using h0) ?_
          walk_at "g"
          simp [isCntL, hn, h0]
    · rintro _ H1 ⟨rfl, e1⟩
      rw [e1]
      exact q
/-! ### what is wanted -/
inductive Wt where
  | fn | num | cnt | part | nd | els
def wtS : Wt → Str
  | .fn => "fun" | .num => "number" | .cnt => "count" | .part => "part" | .nd => "end" | .els => "else"
def itemL (w : Str) : Wt → T
  | .num => .int (numV (TL.tl w))
  | .cnt => .int (numV (TL.tl w))
  | .part => if isNumL (TL.tl w) = true then .tup [.str "num", .int (numV (TL.tl w))] else if isNameL (TL.tl w) = true then .tup [.str "name", .int (numV (TL.tl w).tail)] else .str w
  | _ => .str w
def spItem (K : PySem.W.Frag) : Sp := fun vs H Q _ => ∃ w k, vs = [.str w, .str (wtS k)] ∧ w.length ≤ 4000000 ∧ ((k = .num ∨ k = .cnt) → isNumL (TL.tl w) = true) ∧ ∀ H' v, Ch K [] H H' → Rep K H' v (itemL w k) → Q v H'
theorem wt_in (k : Wt) : inV (V.str (wtS k)) [V.str "number", V.str "count"] = (match k with | .num => true | .cnt => true | _ => false) := by
  cases k <;> (simp only [wtS]; decide +kernel)
theorem wt_part (k : Wt) : decide (V.str (wtS k) = V.str "part") = (match k with | .part => true | _ => false) := by
  cases k <;> (simp only [wtS]; decide +kernel)
theorem wt_num (k : Wt) : decide (V.str (wtS k) = V.str "number") = (match k with | .num => true | _ => false) := by
  cases k <;> (simp only [wtS]; decide +kernel)
theorem wt_cnt (k : Wt) : decide (V.str (wtS k) = V.str "count") = (match k with | .cnt => true | _ => false) := by
  cases k <;> (simp only [wtS]; decide +kernel)
theorem wt_fn (k : Wt) : decide (V.str (wtS k) = V.str "fun") = (match k with | .fn => true | _ => false) := by
  cases k <;> (simp only [wtS]; decide +kernel)
theorem name_num {l : List Nat} (h : isNameL l = true) : ∃ c r, l = c :: r ∧ isNumL r = true := by
  unfold isNameL at h
  split at h
  · rename_i r
    rw [Bool.and_eq_true] at h
    exact ⟨110, r, rfl, h.1⟩
  · cases h
theorem fn_item_of (C : Cn w K mg base) : Fn P w K mg base CX0 4 "item_of" ["word", "want"] (spItem K) := C.f_item_of fun fd F => by
  have F_is_number_word : Fn P w K mg base CX0 2 "is_number_word" ["word"] spIsNumW := fn_is_number_word C
  have F_is_name_word : Fn P w K mg base CX0 3 "is_name_word" ["word"] spIsNameW := fn_is_name_word C
  refine F.ok (CX := CX0) sc_item_of (fun vs H Q E h => ?_) (fun cdv A outer s H vs Q E hr h => ?_)
  · obtain ⟨z, k, rfl, _⟩ := h
    rfl
  · obtain ⟨z, k, rfl, hz, hk, q⟩ := h
    refine ⟨_, PSs.nox (pss_cons (ps_if (pt_cmpR op_in_seq (pv 1) (pe_tupC (pa_cons pe_str (pa_cons pe_str pa_nil))) (by rfl)) (pss_one (ps_ret (pe_callTy call_int_str (by rfl) (C.m_int) (by decide +kernel) (pa_cons (pv 0) pa_nil)))) pss_nil)
      (pss_cons (ps_if (pt_mid (PW.pt (pw_and (pt_cmpR op_eq (pv 1) pe_str (nomark _)) (pw_and1 (pt_val (pe_fn F_is_number_word (rmm hr) (by rfl) pass0 (pa_cons (pv 0) pa_nil))))))) (pss_one (ps_ret (pe_tupC (pa_cons pe_str (pa_cons (pe_callTy call_int_str (by rfl) (C.m_int) (by decide +kernel) (pa_cons (pv 0) pa_nil)) pa_nil))))) pss_nil)
      (pss_cons (ps_if (pt_mid (PW.pt (pw_and (pt_cmpR op_eq (pv 1) pe_str (nomark _)) (pw_and1 (pt_val (pe_fn F_is_name_word (rmm hr) (by rfl) pass0 (pa_cons (pv 0) pa_nil))))))) (pss_one (ps_ret (pe_tupC (pa_cons pe_str (pa_cons (pe_callTy call_int_str (by rfl) (C.m_int) (by decide +kernel) (pa_cons (pe_slice sl_str (pv 0) (po_some pe_int) po_none) pa_nil)) pa_nil))))) pss_nil)
      (pss_one (ps_ret (pv 0)))))), ?_⟩
    walk_at "go"
    refine ⟨szle (by simp), fun l H1 n1 e1 c1 => ?_⟩
    walk_at "g"
    rw [wt_in]
    cases hp : decide (V.str (wtS k) = V.str "part") with
    | true =>
      have hk' : k = .part := by
        rw [wt_part] at hp
        cases k <;> first | rfl | cases hp
      subst hk'
      walk_at "no"
      refine g_mid (fun b H' => b = isNumL (TL.tl z) ∧ H' = H1) ?_ ?_
      · walk_at "g"
        refine tkT rfl ?_
        walk_at "g"
        exact ⟨z, rfl, hz, _, rfl, rfl, rfl⟩
      · rintro _ H9 ⟨rfl, e9⟩
        rw [e9]
        refine iteB (fun hn => ?_) (fun hn => ?_)
        · obtain ⟨i1, i2⟩ := isNum_int hn
          walk_at "g"
          refine ⟨i2, ?_⟩
          walk_at "g"
          refine ⟨szle (by simp), fun p H2 n2 e2 c2 => ?_⟩
          refine q _ _ (c1.trans c2) ?_
          unfold itemL
          rw [if_pos hn]
          exact .tup (SqT.of e2) (.cons (.str _) (.cons (.int _) .nil))
        · walk_at "g"
          refine g_mid (fun b H' => b = isNameL (TL.tl z) ∧ H' = H1) ?_ ?_
          · walk_at "g"
            refine tkT rfl ?_
            walk_at "g"
            exact ⟨z, rfl, hz, _, rfl, rfl, rfl⟩
          · rintro _ H8 ⟨rfl, e8⟩
            rw [e8]
            refine iteB (fun hm => ?_) (fun hm => ?_)
            · obtain ⟨c, r, er, hr2⟩ := name_num hm
              walk_at "g"
              refine ⟨_, rfl, szS hz, ?_⟩
              have e3 := cut1 er
              obtain ⟨i1, i2⟩ := isNum_int (w := cutS z (some 1) none) (by rw [e3]; exact hr2)
              refine ⟨_, _, rfl, i1, i2, ?_⟩
              walk_at "g"
              refine ⟨szle (by simp), fun p H2 n2 e2 c2 => ?_⟩
              refine q _ _ (c1.trans c2) ?_
              unfold itemL
              rw [if_neg (by rw [hn]; exact Bool.false_ne_true), if_pos hm, er]
              rw [e3] at e2
              exact .tup (SqT.of e2) (.cons (.str _) (.cons (.int _) .nil))
            · walk_at "g"
              refine q _ _ c1 ?_
              unfold itemL
              rw [if_neg (by rw [hn]; exact Bool.false_ne_true), if_neg (by rw [hm]; exact Bool.false_ne_true)]
              exact .str _
    | false =>
      cases k with
      | part => cases hp
      | num =>
        walk_at "yes"
        obtain ⟨i1, i2⟩ := isNum_int (hk (.inl rfl))
        refine ⟨_, _, rfl, i1, i2, ?_⟩
        exact q _ _ c1 (.int _)
      | cnt =>
        walk_at "yes"
        obtain ⟨i1, i2⟩ := isNum_int (hk (.inr rfl))
        refine ⟨_, _, rfl, i1, i2, ?_⟩
        exact q _ _ c1 (.int _)
      | _ =>
        walk_at "no"
        refine g_mid (fun b H' => b = false ∧ H' = H1) ?_ ?_
        · walk_at "g"
          refine tkF rfl ?_
          walk_at "g"
          exact ⟨rfl, rfl⟩
        · rintro _ H9 ⟨rfl, e9⟩
          rw [e9]
          walk_at "no"
          refine g_mid (fun b H' => b = false ∧ H' = H1) ?_ ?_
          · walk_at "g"
            refine tkF rfl ?_
            walk_at "g"
            exact ⟨rfl, rfl⟩
          · rintro _ H8 ⟨rfl, e8⟩
            rw [e8]
            walk_at "no"
            exact q _ _ c1 (.str _)
end
end K3
end

section
set_option maxRecDepth 100000
set_option maxHeartbeats 1000000
open Bq L2
/-- one step of a reading; what is left are side goals and places to think -/
local macro_rules | `(tactic| walk_at "g1") => `(tactic| first
  | with_reducible refine' g_seq ?_ | with_reducible refine' g_asg ?_ | with_reducible refine' g_drop ?_ | with_reducible refine' g_ret ?_ | with_reducible refine' g_ifS ?_ | with_reducible refine' g_asgG ?_
  | ((with_reducible refine' g_var ?hv ?_); (case hv => rfl))
  | with_reducible refine' g_c ?_ | with_reducible refine' g_op ?_ | with_reducible refine' g_un ?_ | with_reducible refine' g_I0 ?_ | with_reducible refine' g_U ?_
  | with_reducible refine' g_test ?_ | with_reducible refine' g_tB ?_ | with_reducible refine Exists.intro _ (And.intro rfl ?_) 
  | ((with_reducible refine' g_andP ?ha ?hb ?_); (case ha => intro R q; walk_at "g"; exact q); (case hb => intro R q; walk_at "g"; exact q))
  | ((with_reducible refine' g_orP ?ha ?hb ?_); (case ha => intro R q; walk_at "g"; exact q); (case hb => intro R q; walk_at "g"; exact q))
  | with_reducible refine' g_and ?_ | with_reducible refine' g_or ?_ | with_reducible refine' g_not ?_
  | with_reducible refine' g_andV ?_ | with_reducible refine' g_orV ?_ | with_reducible refine' g_notV ?_ | with_reducible refine' g_if ?_ | with_reducible refine' g_nil ?_ | with_reducible refine' g_cons ?_
  | with_reducible refine' g_tup ?_ | with_reducible refine' g_lst ?_ | with_reducible refine' g_CB ?_ | with_reducible refine' g_Fn ?_ | with_reducible refine' g_next ?_ | with_reducible refine' g_retN ?_
  | with_reducible refine' g_name ?_ | with_reducible refine' g_sub ?_
  | ((with_reducible refine' g_ixL ?hs ?he ?_); (case hs => walk_at "lk"); (case he => walk_at "at"))
  | ((with_reducible refine' g_ixT ?hs ?he ?_); (case hs => walk_at "lk"); (case he => walk_at "at"))
  | ((with_reducible refine' g_setL ?hs ?he ?_); (case hs => walk_at "hp"); (case he => rfl))
  | ((with_reducible refine' g_app ?hs ?hz ?_); (case hs => walk_at "hp"); (case hz => walk_at "sz"))
  | ((with_reducible refine' ⟨_, _, rfl, Or.inl ?hs, ?_⟩); (case hs => walk_at "lk"))
  | ((with_reducible refine' ⟨_, _, rfl, Or.inr ?hs, ?_⟩); (case hs => walk_at "lk"))
  | with_reducible refine' g_BM ?_ | with_reducible refine' g_BM0 ?_ | ((with_reducible refine' g_tyL ?hs ?_); (case hs => walk_at "lk"))
  | with_reducible refine' g_sl ?_ | with_reducible refine' g_noPart ?_ | with_reducible refine' g_part ?_
  | ((with_reducible refine' g_inT ?hs ?fx ?fs ?_); (case hs => walk_at "lk"); (case fx => rfl); (case fs => rfl))
  | with_reducible refine' g_pair ?_ | with_reducible refine' g_pair0 ?_ | with_reducible refine' g_disp ?_
  | with_reducible refine' g_for ?_ | with_reducible refine' g_tupC ?_ | with_reducible refine' g_lstC ?_ | ((with_reducible refine' g_lens ?_)) | with_reducible refine' g_dg ?_ | with_reducible refine' g_lc ?_ | with_reducible refine' g_rng1 ?_ | with_reducible refine' g_ilist ?_ | with_reducible refine' g_itup ?_
  | ((with_reducible refine' ⟨_, _, rfl, ?hd, ?_⟩); (case hd => walk_at "dg"))
  | ((with_reducible refine' g_eqNil ?hs ?hz ?_); (case hs => walk_at "lk"); (case hz => walk_at "lk"))
  | ((with_reducible refine' g_neNil ?hs ?hz ?_); (case hs => walk_at "lk"); (case hz => walk_at "lk"))
  | with_reducible refine Or.inl ⟨_, rfl, ?_⟩
  | with_reducible refine Or.inr ⟨_, rfl, ?_⟩
  | ((with_reducible refine' g_eq ?hs ?_); (case hs => rfl))
  | ((with_reducible refine' g_ne ?hs ?_); (case hs => rfl))
  | ((with_reducible refine' g_I ?hc ?_); (case hc => walk_at "ar")))
/-- arithmetic's side conditions -/
local macro_rules | `(tactic| walk_at "ar") => `(tactic| (first
  | (show (0 : Int) < _; first | omega | decide) | (show (0 : Int) < _ ∧ _; constructor <;> omega) | (show ¬ (_ : Int) = _; omega) | (show (_ : Int) ≠ _ ∧ _; constructor <;> omega)
  | (show (-(2 ^ 64) < _ ∧ _) ∨ _; (first | (left; constructor <;> omega) | (right; constructor <;> omega))) | (show (0 : Int) ≤ _ ∧ _ ∧ _; refine ⟨by omega, by omega, by decide⟩)))
/-- what stands at an index -/
local macro_rules | `(tactic| walk_at "at") => `(tactic| first | rfl | assumption)
/-- what stands at an address -/
local macro_rules | `(tactic| walk_at "hp") => `(tactic| first | assumption | exact upd_same | ((refine' Eq.trans (upd_ne ?hn) ?hm); (case hm => walk_at "hp"); (case hn => walk_at "ne")))
/-- two places are two -/
local macro_rules | `(tactic| walk_at "ne") => `(tactic| first
  | assumption | exact Ne.symm (by assumption)
  | ((refine' ne_of_none ?ha ?hb); (case hb => assumption); (case ha => walk_at "hp")) | ((refine' Ne.symm (ne_of_none ?ha ?hb)); (case hb => assumption); (case ha => walk_at "hp")))
/-- what a dict tells -/
local macro_rules | `(tactic| walk_at "dg") => `(tactic| first | assumption)
/-- a length -/
local macro_rules | `(tactic| walk_at "sz") => `(tactic| first | (show _ ≤ sizeLine; decide) | (show _ < sizeLine; decide) | assumption | exact szlt (by simp) | exact szle (by simp))
/-- a list or tuple that stands -/
local macro_rules | `(tactic| walk_at "lk") => `(tactic| first | assumption | exact SqL.of (by assumption) | exact SqT.of (by assumption) | exact SqL.of upd_same | exact SqT.of upd_same | (refine' FzL.sq ?hm; (case hm => walk_at "fz")))
/-- a list that nobody writes -/
local macro_rules | `(tactic| walk_at "fz") => `(tactic| first | assumption | ((refine' FzL.uw ?hm ?hx); (case hx => walk_at "hp"); (case hm => walk_at "fz")) | ((refine' FzL.nw ?hm ?hx); (case hx => assumption); (case hm => walk_at "fz")))
/-- as far as it goes by itself -/
local macro_rules | `(tactic| walk_at "g") => `(tactic| repeat walk_at "g1")
/-- the body's reading, its places in short -/
local macro_rules | `(tactic| walk_at "go") => `(tactic| ((try dsimp only [cxOf, Cx.nox, Cx.wish]); walk_at "g"))
namespace K3
open PySem PySem.Spec PyProof.Rows L2 Bq
section
variable {P : Program} {w : World} {K : PySem.W.Frag} {mg : Str → Option Value} {base : Heap}
/-- further steps: dicts written, tuples taken apart -/
local macro_rules | `(tactic| walk_at "g1") => `(tactic| first
  | with_reducible refine' g_sdput ?_
  | ((with_reducible refine' g_gtup ?hs ?hl ?_); (case hs => walk_at "lk"); (case hl => rfl))
  | with_reducible refine' g_gcons ?_
  | with_reducible refine' g_gnil ?_
  | with_reducible refine' And.intro (Eq.refl V.non) ?_
  | with_reducible refine' g_isN ?_
  | ((with_reducible refine' g_chainR ?ha ?hb ?hc ?_); (case ha => intro R q; walk_at "g"; exact q); (case hb => intro R q; walk_at "g"; exact q); (case hc => intro R q; walk_at "g"; exact q))
  | with_reducible refine' g_notN ?_)
/-- what the law's dict tells -/
local macro_rules | `(tactic| walk_at "dg") => `(tactic| first
  | assumption
  | exact LH.gfuns (by assumption)
  | exact LH.gsaid (by assumption)
  | exact LH.gcells (by assumption)
  | exact LH.gfuel (by assumption)
  | exact LH.gend (by assumption)
  | exact LH.gcalls (by assumption)
  | exact LH.gnames (by assumption)
  | exact LH.gwaits (by assumption)
  | exact LH.gworth (by assumption)
  | exact LH.glook (by assumption))
/-- a test that fails, that holds, by itself -/
local macro_rules | `(tactic| walk_at "no") => `(tactic| ((refine tkF rfl ?_); walk_at "g"))
local macro_rules | `(tactic| walk_at "yes") => `(tactic| ((refine tkT rfl ?_); walk_at "g"))
local macro_rules | `(tactic| walk_at "g1") => `(tactic| first
  | with_reducible refine' g_catS ?_
  | with_reducible refine' g_mulS ?_
  | with_reducible refine' g_rev ?_)
/-- texts: methods, signs, slices -/
local macro_rules | `(tactic| walk_at "g1") => `(tactic| first
  | with_reducible refine' g_tm0 ?_
  | with_reducible refine' g_tm1 ?_
  | with_reducible refine' g_isdig ?_
  | with_reducible refine' g_isasc ?_
  | with_reducible refine' g_starts ?_
  | with_reducible refine' g_str0 ?_
  | with_reducible refine' g_revL ?_
  | with_reducible refine' g_nilTrue ?_
  | with_reducible refine' g_chainT ?_)
theorem pe_kget2K (K : PySem.W.Frag) {X : Cx} {w : World} {mg : Str → Option Value} {d : Addr} {i : Expr} {pos p : Pos} {x : Str} {ty : TE} (hD : ∃ es n, KDict K w d es n) (hg : Gl X x) (hm : mg x = some (.ref d)) (hi : PE X i ty) (hs : NoSl i) (hK : X.K = K := by rfl) (hw : X.w = w := by rfl) (hmg : X.mg = mg := by rfl)
    (hdb : (x == ("__debug__" : Str)) = false := by decide) : PE X (.Subscript (.Name x p) i pos) (tKGet K (tC (.ref d)) ty) := by
  subst hK hw hmg
  exact pe_kget2 hD hg hm hi hs hdb
def wantsW : Th → List Wt
  | .p (.num _) => []
  | .p (.name _) => []
  | .p (.bin _ _ _) => [.part, .part]
  | .p (.nt _) => [.part]
  | .p (.get _) => [.part]
  | .p (.call _ _) => [.num, .cnt]
  | .d (.set _ _) => [.num, .part]
  | .d (.put _ _) => [.part, .part]
  | .d (.say _) => [.part]
  | .d (.ite _ _ _) => [.part, .els, .nd]
  | .d (.whl _ _) => [.part, .nd]
  | .d (.ret _) => [.part]
  | .d (.dop _) => [.part]
/-- what a place wants, but for an if's first body -/
def wf0 (z : Str) : Wt := if z = "part" then .part else if z = "name" then .num else if z = "fun" then .num else if z = "parts" then .cnt else .nd
def isOpT : Th → Prop
  | .p p => isOp p
  | .d _ => True
def strW (l : List Wt) : List V := l.map fun k => V.str (wtS k)
theorem wanted_tab (C : Cn w K mg base) {t : Th} (h : isOpT t) : ∀ z ∈ plT t, ∃ u, PySem.W.nsIn K (He.ga K "WANTED_FOR") z = some (some u) ∧ RelV (V.str (wtS (wf0 z))) u := by
  have v := C.v_WANTED_FOR
  have k1 : ∃ u, PySem.W.nsIn K (He.ga K "WANTED_FOR") "part" = some (some u) ∧ RelV (V.str "part") u := He.valsB_ok (q := ("part", He.Dv.str "part")) v (by simp)
  have k2 : ∃ u, PySem.W.nsIn K (He.ga K "WANTED_FOR") "name" = some (some u) ∧ RelV (V.str "number") u := He.valsB_ok (q := ("name", He.Dv.str "number")) v (by simp)
  have k3 : ∃ u, PySem.W.nsIn K (He.ga K "WANTED_FOR") "fun" = some (some u) ∧ RelV (V.str "number") u := He.valsB_ok (q := ("fun", He.Dv.str "number")) v (by simp)
  have k4 : ∃ u, PySem.W.nsIn K (He.ga K "WANTED_FOR") "parts" = some (some u) ∧ RelV (V.str "count") u := He.valsB_ok (q := ("parts", He.Dv.str "count")) v (by simp)
  have k5 : ∃ u, PySem.W.nsIn K (He.ga K "WANTED_FOR") "body" = some (some u) ∧ RelV (V.str "end") u := He.valsB_ok (q := ("body", He.Dv.str "end")) v (by simp)
  have e1 : wtS (wf0 "part") = "part" := by decide +kernel
  have e2 : wtS (wf0 "name") = "number" := by decide +kernel
  have e3 : wtS (wf0 "fun") = "number" := by decide +kernel
  have e4 : wtS (wf0 "parts") = "count" := by decide +kernel
  have e5 : wtS (wf0 "body") = "end" := by decide +kernel
  intro z hz
  have : z = "part" ∨ z = "name" ∨ z = "fun" ∨ z = "parts" ∨ z = "body" := by
    cases t with
    | p p => cases p with
      | num i => exact h.elim
      | name i => exact h.elim
      | _ => simp only [plT, List.mem_cons, List.not_mem_nil, or_false] at hz; (first | (rcases hz with rfl | rfl <;> simp) | (subst hz; simp))
    | d d => cases d <;> simp only [plT, List.mem_cons, List.not_mem_nil, or_false] at hz <;> (first | (rcases hz with rfl | rfl | rfl <;> simp) | (rcases hz with rfl | rfl <;> simp) | (subst hz; simp))
  rcases this with rfl | rfl | rfl | rfl | rfl
  · rw [e1]; exact k1
  · rw [e2]; exact k2
  · rw [e3]; exact k3
  · rw [e4]; exact k4
  · rw [e5]; exact k5
theorem plT_len3 (t : Th) : (plT t).length ≤ 3 := by
  cases t with
  | p p => cases p <;> simp [plT]
  | d d => cases d <;> simp [plT]
theorem wants_if {t : Th} (h : isOpT t) : strW (wantsW t) = if decide (V.str (wdT t) = V.str "if") = true then ((plT t).map fun z => V.str (wtS (wf0 z))).set 1 (V.str "else") else (plT t).map fun z => V.str (wtS (wf0 z)) := by
  cases t with
  | p p => cases p with
    | num i => exact h.elim
    | name i => exact h.elim
    | bin op a b => cases op <;> rfl
    | _ => rfl
  | d d => cases d <;> rfl
def spWantsOf (K : PySem.W.Frag) : Sp := fun vs H Q _ => ∃ t, vs = [.str (wdT t)] ∧ isOpT t ∧ ∀ H' a, Ch K [] H H' → H a = none → H' a = some (.lst (strW (wantsW t))) → Q (.ref a) H'
theorem fn_wants_of (C : Cn w K mg base) : Fn P w K mg base CX0 2 "wants_of" ["word"] (spWantsOf K) := C.f_wants_of fun fd F => by
  have F_places_behind : Fn P w K mg base CX0 1 "places_behind" ["word"] (spPlaces K) := fn_places C
  refine F.ok (CX := CX0) sc_wants_of (fun vs H Q E h => ?_) (fun cdv A outer s H vs Q E hr h => ?_)
  · obtain ⟨t, rfl, _⟩ := h
    rfl
  · obtain ⟨t, rfl, ht, q⟩ := h
    refine ⟨_, PSs.nox (pss_cons (ps_setLc (i := 1) (own := [("place", 2)]) (g := gName 2) (tt := tYes) rfl sc_wants_of.nd rfl rfl (sw_true rfl rfl rfl (by decide +kernel)) (pi_tup (pe_fn F_places_behind (rmm hr) (by rfl) pass0 (pa_cons (pv 0) pa_nil))) (blkOk_by (own := [("place", 2)]) (N := ["word", "wants", "place"]) (sc := defScope s_wants_of) (by decide +kernel)) (fun _ _ _ _ _ => pg_name (i := 2) sc_wants_of.nd rfl (Or.inl rfl)) (fun _ _ _ _ _ => pts_nil) (fun _ _ _ _ _ => (pe_kget2K K C.k_WANTED_FOR (by rfl) C.g_WANTED_FOR (pv 2) (fun _ _ => rfl))))
      (Evl.pss_cut (ps_if (pt_cmpR op_eq (pv 0) pe_str (nomark _)) (pss_one (ps_asg pe_str (pg_sub (pv 1) pe_int set_list))) pss_nil)
      (pss_one (ps_ret (pv 1))))), ?_⟩
    have hw := wants_if ht
    have h3 := plT_len3 t
    walk_at "go"
    refine ⟨t, rfl, fun a ha => ?_⟩
    walk_at "g"
    refine ⟨⟨_, ha _⟩, fun D nD => ?_⟩
    refine lcT1 (xs := (plT t).map V.str) (fun i H' => Ch K [] H H' ∧ H' D = some (.lst (((plT t).take i).map fun z => V.str (wtS (wf0 z))))) ⟨Ch.new nD, upd_same⟩ (fun i H' _ p => ha _) ?_ ?_
    · rintro i x H1 hx ⟨c1, e1⟩
      rw [List.getElem?_map] at hx
      cases hz : (plT t)[i]? with
      | none => rw [hz] at hx; cases hx
      | some z =>
        rw [hz] at hx
        cases hx
        obtain ⟨u, hu1, hu2⟩ := wanted_tab C ht z (List.mem_of_getElem? hz)
        refine g_kget ?_
        walk_at "g"
        refine ⟨_, z, u, V.str (wtS (wf0 z)), rfl, rfl, hu1, hu2, ?_⟩
        refine ⟨_, e1, szlt (by rw [List.length_map, List.length_take]; omega), Ch.wrN c1 nD e1 rfl, ?_⟩
        rw [upd_same, List.take_add_one, hz]
        simp
    · rintro H1 ⟨c1, e1⟩
      have e1' : H1 D = some (.lst ((plT t).map fun z => V.str (wtS (wf0 z)))) := by
        rw [e1, List.length_map, List.take_length]
      walk_at "g"
      refine g_cut (Mid := fun σ' H' => σ' = [some (.str (wdT t)), some (.ref D), none] ∧ Ch K [] H H' ∧ H' D = some (.lst (strW (wantsW t)))) ?_ ?_
      · walk_at "g"
        refine iteB (fun h => ?_) (fun h => ?_)
        · rw [if_pos h] at hw
          walk_at "g"
          have h1 : 1 < ((plT t).map fun z => V.str (wtS (wf0 z))).length := by
            cases t with
            | p p => cases p with
              | bin op a b => cases op <;> cases h
              | _ => cases h
            | d d => cases d <;> first | (cases h; done) | (simp [plT])
          refine setL_nat (j := 1) e1' h1 ?_
          refine ⟨rfl, Ch.wrN c1 nD e1 rfl, ?_⟩
          rw [upd_same, hw]
        · rw [if_neg (by rw [h]; exact Bool.false_ne_true)] at hw
          walk_at "g"
          exact ⟨rfl, c1, by rw [e1', hw]⟩
      · rintro _ H2 ⟨rfl, c2, e2⟩
        walk_at "g"
        exact q _ _ c2 nD e2
end
end K3
end

section
set_option maxRecDepth 100000
set_option maxHeartbeats 1000000
open Bq L2
/-- one step of a reading; what is left are side goals and places to think -/
local macro_rules | `(tactic| walk_at "g1") => `(tactic| first
  | with_reducible refine' g_seq ?_ | with_reducible refine' g_asg ?_ | with_reducible refine' g_drop ?_ | with_reducible refine' g_ret ?_ | with_reducible refine' g_ifS ?_ | with_reducible refine' g_asgG ?_
  | ((with_reducible refine' g_var ?hv ?_); (case hv => rfl))
  | with_reducible refine' g_c ?_ | with_reducible refine' g_op ?_ | with_reducible refine' g_un ?_ | with_reducible refine' g_I0 ?_ | with_reducible refine' g_U ?_
  | with_reducible refine' g_test ?_ | with_reducible refine' g_tB ?_ | with_reducible refine Exists.intro _ (And.intro rfl ?_) 
  | ((with_reducible refine' g_andP ?ha ?hb ?_); (case ha => intro R q; walk_at "g"; exact q); (case hb => intro R q; walk_at "g"; exact q))
  | ((with_reducible refine' g_orP ?ha ?hb ?_); (case ha => intro R q; walk_at "g"; exact q); (case hb => intro R q; walk_at "g"; exact q))
  | with_reducible refine' g_and ?_ | with_reducible refine' g_or ?_ | with_reducible refine' g_not ?_
  | with_reducible refine' g_andV ?_ | with_reducible refine' g_orV ?_ | with_reducible refine' g_notV ?_ | with_reducible refine' g_if ?_ | with_reducible refine' g_nil ?_ | with_reducible refine' g_cons ?_
  | with_reducible refine' g_tup ?_ | with_reducible refine' g_lst ?_ | with_reducible refine' g_CB ?_ | with_reducible refine' g_Fn ?_ | with_reducible refine' g_next ?_ | with_reducible refine' g_retN ?_
  | with_reducible refine' g_name ?_ | with_reducible refine' g_sub ?_
  | ((with_reducible refine' g_ixL ?hs ?he ?_); (case hs => walk_at "lk"); (case he => walk_at "at"))
  | ((with_reducible refine' g_ixT ?hs ?he ?_); (case hs => walk_at "lk"); (case he => walk_at "at"))
  | ((with_reducible refine' g_setL ?hs ?he ?_); (case hs => walk_at "hp"); (case he => rfl))
  | ((with_reducible refine' g_app ?hs ?hz ?_); (case hs => walk_at "hp"); (case hz => walk_at "sz"))
  | ((with_reducible refine' ⟨_, _, rfl, Or.inl ?hs, ?_⟩); (case hs => walk_at "lk"))
  | ((with_reducible refine' ⟨_, _, rfl, Or.inr ?hs, ?_⟩); (case hs => walk_at "lk"))
  | with_reducible refine' g_BM ?_ | with_reducible refine' g_BM0 ?_ | ((with_reducible refine' g_tyL ?hs ?_); (case hs => walk_at "lk"))
  | with_reducible refine' g_sl ?_ | with_reducible refine' g_noPart ?_ | with_reducible refine' g_part ?_
  | ((with_reducible refine' g_inT ?hs ?fx ?fs ?_); (case hs => walk_at "lk"); (case fx => rfl); (case fs => rfl))
  | with_reducible refine' g_pair ?_ | with_reducible refine' g_pair0 ?_ | with_reducible refine' g_disp ?_
  | with_reducible refine' g_for ?_ | with_reducible refine' g_tupC ?_ | with_reducible refine' g_lstC ?_ | ((with_reducible refine' g_lens ?_)) | with_reducible refine' g_dg ?_ | with_reducible refine' g_lc ?_ | with_reducible refine' g_rng1 ?_ | with_reducible refine' g_ilist ?_ | with_reducible refine' g_itup ?_
  | ((with_reducible refine' ⟨_, _, rfl, ?hd, ?_⟩); (case hd => walk_at "dg"))
  | ((with_reducible refine' g_eqNil ?hs ?hz ?_); (case hs => walk_at "lk"); (case hz => walk_at "lk"))
  | ((with_reducible refine' g_neNil ?hs ?hz ?_); (case hs => walk_at "lk"); (case hz => walk_at "lk"))
  | with_reducible refine Or.inl ⟨_, rfl, ?_⟩
  | with_reducible refine Or.inr ⟨_, rfl, ?_⟩
  | ((with_reducible refine' g_eq ?hs ?_); (case hs => rfl))
  | ((with_reducible refine' g_ne ?hs ?_); (case hs => rfl))
  | ((with_reducible refine' g_I ?hc ?_); (case hc => walk_at "ar")))
/-- arithmetic's side conditions -/
local macro_rules | `(tactic| walk_at "ar") => `(tactic| (first
  | (show (0 : Int) < _; first | omega | decide) | (show (0 : Int) < _ ∧ _; constructor <;> omega) | (show ¬ (_ : Int) = _; omega) | (show (_ : Int) ≠ _ ∧ _; constructor <;> omega)
  | (show (-(2 ^ 64) < _ ∧ _) ∨ _; (first | (left; constructor <;> omega) | (right; constructor <;> omega))) | (show (0 : Int) ≤ _ ∧ _ ∧ _; refine ⟨by omega, by omega, by decide⟩)))
/-- what stands at an index -/
local macro_rules | `(tactic| walk_at "at") => `(tactic| first | rfl | assumption)
/-- what stands at an address -/
local macro_rules | `(tactic| walk_at "hp") => `(tactic| first | assumption | exact upd_same | ((refine' Eq.trans (upd_ne ?hn) ?hm); (case hm => walk_at "hp"); (case hn => walk_at "ne")))
/-- two places are two -/
local macro_rules | `(tactic| walk_at "ne") => `(tactic| first
  | assumption | exact Ne.symm (by assumption)
  | ((refine' ne_of_none ?ha ?hb); (case hb => assumption); (case ha => walk_at "hp")) | ((refine' Ne.symm (ne_of_none ?ha ?hb)); (case hb => assumption); (case ha => walk_at "hp")))
/-- what a dict tells -/
local macro_rules | `(tactic| walk_at "dg") => `(tactic| first | assumption)
/-- a length -/
local macro_rules | `(tactic| walk_at "sz") => `(tactic| first | (show _ ≤ sizeLine; decide) | (show _ < sizeLine; decide) | assumption | exact szlt (by simp) | exact szle (by simp))
/-- a list or tuple that stands -/
local macro_rules | `(tactic| walk_at "lk") => `(tactic| first | assumption | exact SqL.of (by assumption) | exact SqT.of (by assumption) | exact SqL.of upd_same | exact SqT.of upd_same | (refine' FzL.sq ?hm; (case hm => walk_at "fz")))
/-- a list that nobody writes -/
local macro_rules | `(tactic| walk_at "fz") => `(tactic| first | assumption | ((refine' FzL.uw ?hm ?hx); (case hx => walk_at "hp"); (case hm => walk_at "fz")) | ((refine' FzL.nw ?hm ?hx); (case hx => assumption); (case hm => walk_at "fz")))
/-- as far as it goes by itself -/
local macro_rules | `(tactic| walk_at "g") => `(tactic| repeat walk_at "g1")
/-- the body's reading, its places in short -/
local macro_rules | `(tactic| walk_at "go") => `(tactic| ((try dsimp only [cxOf, Cx.nox, Cx.wish]); walk_at "g"))
namespace K3
open PySem PySem.Spec PyProof.Rows L2 Bq
section
variable {P : Program} {w : World} {K : PySem.W.Frag} {mg : Str → Option Value} {base : Heap}
/-- further steps: dicts written, tuples taken apart -/
local macro_rules | `(tactic| walk_at "g1") => `(tactic| first
  | with_reducible refine' g_sdput ?_
  | ((with_reducible refine' g_gtup ?hs ?hl ?_); (case hs => walk_at "lk"); (case hl => rfl))
  | with_reducible refine' g_gcons ?_
  | with_reducible refine' g_gnil ?_
  | with_reducible refine' And.intro (Eq.refl V.non) ?_
  | with_reducible refine' g_isN ?_
  | ((with_reducible refine' g_chainR ?ha ?hb ?hc ?_); (case ha => intro R q; walk_at "g"; exact q); (case hb => intro R q; walk_at "g"; exact q); (case hc => intro R q; walk_at "g"; exact q))
  | with_reducible refine' g_notN ?_)
/-- what the law's dict tells -/
local macro_rules | `(tactic| walk_at "dg") => `(tactic| first
  | assumption
  | exact LH.gfuns (by assumption)
  | exact LH.gsaid (by assumption)
  | exact LH.gcells (by assumption)
  | exact LH.gfuel (by assumption)
  | exact LH.gend (by assumption)
  | exact LH.gcalls (by assumption)
  | exact LH.gnames (by assumption)
  | exact LH.gwaits (by assumption)
  | exact LH.gworth (by assumption)
  | exact LH.glook (by assumption))
/-- a test that fails, that holds, by itself -/
local macro_rules | `(tactic| walk_at "no") => `(tactic| ((refine tkF rfl ?_); walk_at "g"))
local macro_rules | `(tactic| walk_at "yes") => `(tactic| ((refine tkT rfl ?_); walk_at "g"))
local macro_rules | `(tactic| walk_at "g1") => `(tactic| first
  | with_reducible refine' g_catS ?_
  | with_reducible refine' g_mulS ?_
  | with_reducible refine' g_rev ?_)
/-- texts: methods, signs, slices -/
local macro_rules | `(tactic| walk_at "g1") => `(tactic| first
  | with_reducible refine' g_tm0 ?_
  | with_reducible refine' g_tm1 ?_
  | with_reducible refine' g_isdig ?_
  | with_reducible refine' g_isasc ?_
  | with_reducible refine' g_starts ?_
  | with_reducible refine' g_str0 ?_
  | with_reducible refine' g_revL ?_
  | with_reducible refine' g_nilTrue ?_
  | with_reducible refine' g_chainT ?_)
inductive Okq : Str → T → Wt → List Wt → Prop where
  | num (i : Int) (h1 : -1000000 ≤ i) (h2 : i ≤ 1000000) : Okq (wn i) (.int i) .num []
  | cnt (n : Nat) (h : n ≤ 9) : Okq (wn n) (.int n) .cnt (List.replicate n .part)
  | pnum (i : Int) (h1 : -1000000 ≤ i) (h2 : i ≤ 1000000) : Okq (wn i) (.tup [.str "num", .int i]) .part []
  | pname (i : Nat) (h : i < 8) : Okq ("n" ++ wn i) (.tup [.str "name", .int i]) .part []
  | op (p : Pt) (h : isOp p) : Okq (wdT (.p p)) (.str (wdT (.p p))) .part (wantsW (.p p))
  | fn : Okq "fun" (.str "fun") .fn [.num, .num, .nd, .fn]
  | nd : Okq "end" (.str "end") .nd []
  | els : Okq "else" (.str "else") .els []
  | deed (d : Dd) (k : Wt) (hk : k = .nd ∨ k = .els) : Okq (wdT (.d d)) (.str (wdT (.d d))) k (wantsW (.d d) ++ [k])
theorem op_num {p : Pt} (h : isOp p) : isNumL (TL.tl (wdT (.p p))) = false ∧ isNameL (TL.tl (wdT (.p p))) = false := by
  cases p with
  | num i => exact h.elim
  | name i => exact h.elim
  | bin op a b => cases op <;> (simp only [wdT, Op.str]; decide +kernel)
  | _ => simp only [wdT]; decide +kernel
theorem nm_name {i : Nat} (h : i < 8) : isNumL (TL.tl ("n" ++ wn (i : Int))) = false ∧ isNameL (TL.tl ("n" ++ wn (i : Int))) = true ∧ numV (TL.tl ("n" ++ wn (i : Int))).tail = i := by
  have e := tl_nm i
  have n1 := isNum_nat (n := i) (by omega)
  rw [tl_pos] at n1
  rw [e]
  refine ⟨rfl, ?_, n1.2⟩
  show (isNumL (TL.numL i) && decide ((TL.numL i).head? ≠ some 45)) = true
  rw [n1.1, Bool.true_and]
  have hd := TL.numL_digits i
  cases q : TL.numL i with
  | nil => rfl
  | cons c r =>
    rw [q] at hd
    have := hd.head
    simp
    omega
theorem isOp_wd {p : Pt} (h : isOp p) : (wdT (.p p)).length ≤ 8 := by
  cases p with
  | num i => exact h.elim
  | name i => exact h.elim
  | bin op a b => cases op <;> (simp only [wdT, Op.str]; decide +kernel)
  | _ => simp only [wdT]; decide +kernel
theorem Okq.len {w : Str} {t : T} {k : Wt} {l : List Wt} (h : Okq w t k l) : w.length ≤ 8 := by
  cases h with
  | num i h1 h2 => exact (okS_num h1 h2).1
  | cnt n h => exact (okS_nat h).1
  | pnum i h1 h2 => exact (okS_num h1 h2).1
  | pname i h => exact (okS_nm h).1
  | op p h => exact isOp_wd h
  | fn => decide +kernel
  | nd => decide +kernel
  | els => decide +kernel
  | deed d k hk => cases d <;> (simp only [wdT]; decide +kernel)
theorem Okq.item {w : Str} {t : T} {k : Wt} {l : List Wt} (h : Okq w t k l) : itemL w k = t ∧ ((k = .num ∨ k = .cnt) → isNumL (TL.tl w) = true) := by
  cases h with
  | num i h1 h2 =>
    have := isNum_wn h1 h2
    exact ⟨by unfold itemL; rw [this.2], fun _ => this.1⟩
  | cnt n h =>
    have := isNum_nat (n := n) (by omega)
    exact ⟨by unfold itemL; rw [this.2], fun _ => this.1⟩
  | pnum i h1 h2 =>
    have := isNum_wn h1 h2
    exact ⟨by unfold itemL; rw [if_pos this.1, this.2], fun _ => this.1⟩
  | pname i h =>
    have := nm_name h
    refine ⟨by unfold itemL; rw [if_neg (by rw [this.1]; exact Bool.false_ne_true), if_pos this.2.1, this.2.2], fun h => ?_⟩
    rcases h with h | h <;> cases h
  | op p h =>
    have := op_num h
    refine ⟨by unfold itemL; rw [if_neg (by rw [this.1]; exact Bool.false_ne_true), if_neg (by rw [this.2]; exact Bool.false_ne_true)], fun h => ?_⟩
    rcases h with h | h <;> cases h
  | fn => exact ⟨rfl, fun h => by rcases h with h | h <;> cases h⟩
  | nd => exact ⟨rfl, fun h => by rcases h with h | h <;> cases h⟩
  | els => exact ⟨rfl, fun h => by rcases h with h | h <;> cases h⟩
  | deed d k hk => rcases hk with rfl | rfl <;> exact ⟨rfl, fun h => by rcases h with h | h <;> cases h⟩
theorem wantsW_len (t : Th) : (wantsW t).length ≤ 3 := by
  cases t with
  | p p => cases p <;> simp [wantsW]
  | d d => cases d <;> simp [wantsW]
theorem Okq.wlen {w : Str} {t : T} {k : Wt} {l : List Wt} (h : Okq w t k l) : l.length ≤ 9 := by
  cases h with
  | cnt n h => rw [List.length_replicate]; exact h
  | op p h => have := wantsW_len (.p p); omega
  | deed d k hk => have := wantsW_len (.d d); rw [List.length_append]; simp; omega
  | _ => decide
def spWants (K : PySem.W.Frag) : Sp := fun vs H Q _ => ∃ w t k l, vs = [.str w, .str (wtS k)] ∧ Okq w t k l ∧ ∀ H' a, Ch K [] H H' → H a = none → H' a = some (.lst (strW l)) → Q (.ref a) H'
def spWantsP (K : PySem.W.Frag) : Sp := fun vs H Q _ => ∃ w t l, vs = [.str w] ∧ Okq w t .part l ∧ ∀ H' a, Ch K [] H H' → H a = none → H' a = some (.lst (strW l)) → Q (.ref a) H'
theorem fn_wants_part (C : Cn w K mg base) : Fn P w K mg base CX0 4 "wants_behind_part" ["word"] (spWantsP K) := C.f_wants_behind_part fun fd F => by
  have F_is_number_word : Fn P w K mg base CX0 2 "is_number_word" ["word"] spIsNumW := fn_is_number_word C
  have F_is_name_word : Fn P w K mg base CX0 3 "is_name_word" ["word"] spIsNameW := fn_is_name_word C
  have F_wants_of : Fn P w K mg base CX0 2 "wants_of" ["word"] (spWantsOf K) := fn_wants_of C
  refine F.ok (CX := CX0) sc_wants_behind_part (fun vs H Q E h => ?_) (fun cdv A outer s H vs Q E hr h => ?_)
  · obtain ⟨z, t, l, rfl, _⟩ := h
    rfl
  · obtain ⟨z, t, l, rfl, ok, q⟩ := h
    refine ⟨_, PSs.nox (pss_cons (ps_if (pt_mid (PW.pt (pw_or (pt_val (pe_fn F_is_number_word (rmm hr) (by rfl) pass0 (pa_cons (pv 0) pa_nil))) (pw_or1 (pt_val (pe_fn F_is_name_word (rmm hr) (by rfl) pass0 (pa_cons (pv 0) pa_nil))))))) (pss_one (ps_ret (pe_lstC pa_nil))) pss_nil)
      (pss_cons (ps_if (pt_mid (PW.pt (pw_and (pt_cmpR (op_in_mod C.k_PARTS) (pv 0) (pe_glob (v := .ref _) (by rfl) C.g_PARTS rfl) (by rfl)) (pw_and1 (pt_cmpR op_notIn_seq (pv 0) (pe_tupC (pa_cons pe_str (pa_cons pe_str pa_nil))) (by rfl)))))) (pss_one (ps_ret (pe_fn F_wants_of (rmm hr) (by rfl) pass0 (pa_cons (pv 0) pa_nil)))) pss_nil)
      (pss_one (ps_ret pe_non)))), ?_⟩
    have hz := ok.len
    walk_at "go"
    refine g_mid (fun b H' => b = (isNumL (TL.tl z) || isNameL (TL.tl z)) ∧ H' = H) ?_ ?_
    · walk_at "g"
      refine ⟨z, rfl, by omega, _, rfl, ?_⟩
      refine iteB (fun h => ?_) (fun h => ?_)
      · rw [h]
        exact ⟨rfl, rfl⟩
      · walk_at "g"
        refine ⟨z, rfl, by omega, _, rfl, ?_⟩
        rw [h]
        exact ⟨rfl, rfl⟩
    · rintro _ H9 ⟨rfl, e9⟩
      rw [e9]
      cases ok with
      | pnum i h1 h2 =>
        rw [(isNum_wn h1 h2).1]
        walk_at "yes"
        exact ⟨szle (by simp), fun a H2 n2 e2 c2 => q _ _ c2 n2 e2⟩
      | pname i h =>
        rw [(nm_name h).2.1, Bool.or_true]
        walk_at "yes"
        exact ⟨szle (by simp), fun a H2 n2 e2 c2 => q _ _ c2 n2 e2⟩
      | op p h =>
        rw [(op_num h).1, (op_num h).2]
        walk_at "no"
        refine g_mid (fun b H' => b = true ∧ Ch K [] H H') ?_ ?_
        · walk_at "g"
          obtain ⟨a, ha, hS⟩ := parts_tab C (.p p)
          refine ⟨_, _, rfl, rfl, ha, ?_⟩
          walk_at "g"
          walk_at "yes"
          refine ⟨szle (by simp), fun a H2 n2 e2 c2 => ?_⟩
          have hw := inN_op h
          walk_at "g"
          refine ⟨a, _, rfl, .inr (SqT.of e2), rfl, rfl, ?_⟩
          refine ⟨_, rfl, ?_, c2⟩
          rw [hw]
          rfl
        · rintro _ H3 ⟨rfl, c3⟩
          walk_at "yes"
          refine ⟨.p p, rfl, h, fun H4 a c4 n4 e4 => ?_⟩
          exact q _ _ (c3.trans c4) (c3.free n4 (by simp)) e4
      | deed d k hk => rcases hk with hk | hk <;> cases hk
theorem wd_fun (d : Dd) : decide (V.str (wdT (.d d)) = V.str "fun") = false := by cases d <;> rfl
theorem rep1 (n : Nat) : (List.replicate n [V.str "part"]).flatten = strW (List.replicate n .part) := by
  induction n with
  | zero => rfl
  | succ n ih => rw [List.replicate_succ, List.replicate_succ, List.flatten_cons, ih]; rfl
theorem fn_wants (C : Cn w K mg base) : Fn P w K mg base CX0 5 "wants_behind" ["word", "want"] (spWants K) := C.f_wants_behind fun fd F => by
  have F_is_number_word : Fn P w K mg base CX0 2 "is_number_word" ["word"] spIsNumW := fn_is_number_word C
  have F_is_count_word : Fn P w K mg base CX0 3 "is_count_word" ["word"] spIsCntW := fn_is_count_word C
  have F_wants_behind_part : Fn P w K mg base CX0 4 "wants_behind_part" ["word"] (spWantsP K) := fn_wants_part C
  have F_wants_of : Fn P w K mg base CX0 2 "wants_of" ["word"] (spWantsOf K) := fn_wants_of C
  refine F.ok (CX := CX0) sc_wants_behind (fun vs H Q E h => ?_) (fun cdv A outer s H vs Q E hr h => ?_)
  · obtain ⟨z, t, k, l, rfl, _⟩ := h
    rfl
  · obtain ⟨z, t, k, l, rfl, ok, q⟩ := h
    refine ⟨_, PSs.nox (pss_cons (ps_if (pt_cmpR op_eq (pv 1) pe_str (nomark _)) (pss_one (ps_ret (pe_mid (pe_ifExp (pt_val (pe_fn F_is_number_word (rmm hr) (by rfl) pass0 (pa_cons (pv 0) pa_nil))) (pe_lstC pa_nil) pe_non)))) pss_nil)
      (pss_cons (ps_if (pt_cmpR op_eq (pv 1) pe_str (nomark _)) (pss_one (ps_ret (pe_mid (pe_ifExp (pt_val (pe_fn F_is_count_word (rmm hr) (by rfl) pass0 (pa_cons (pv 0) pa_nil))) (pe_op op_repL (pe_lstC (pa_cons pe_str pa_nil)) (pe_callTy call_int_str (by rfl) (C.m_int) (by decide +kernel) (pa_cons (pv 0) pa_nil))) pe_non)))) pss_nil)
      (pss_cons (ps_if (pt_cmpR op_eq (pv 1) pe_str (nomark _)) (pss_one (ps_ret (pe_fn F_wants_behind_part (rmm hr) (by rfl) pass0 (pa_cons (pv 0) pa_nil)))) pss_nil)
      (pss_cons (ps_if (pt_cmpR op_eq (pv 0) (pv 1) (nomark _)) (pss_one (ps_ret (pe_ifExp (pt_cmpR op_eq (pv 0) pe_str (nomark _)) (pe_callTy call_list_of (by rfl) (C.m_list) (by decide +kernel) (pa_cons (pe_glob (v := .ref _) (by rfl) C.g_BEHIND_FUN rfl) pa_nil)) (pe_lstC pa_nil)))) pss_nil)
      (pss_cons (ps_if (PW.pt (pw_and (pt_cmpR (op_in_mod C.k_DEEDS) (pv 0) (pe_glob (v := .ref _) (by rfl) C.g_DEEDS rfl) (by rfl)) (pw_and1 (pt_cmpR op_ne (pv 1) pe_str (nomark _))))) (pss_one (ps_ret (pe_lstC (StX.pa_star (pe_fn F_wants_of (rmm hr) (by rfl) pass0 (pa_cons (pv 0) pa_nil)) (pa_cons (pv 1) pa_nil))))) pss_nil)
      (pss_one (ps_ret pe_non))))))), ?_⟩
    have hz := ok.len
    have ok0 := ok
    walk_at "go"
    rw [wt_num]
    cases ok with
    | num i h1 h2 =>
      have hn := (isNum_wn h1 h2).1
      walk_at "yes"
      refine g_midE (fun v H' => ∃ a, v = .ref a ∧ Ch K [] H H' ∧ H a = none ∧ H' a = some (.lst [])) ?_ ?_
      · walk_at "g"
        refine ⟨_, rfl, by omega, _, rfl, ?_⟩
        refine tkT hn ?_
        walk_at "g"
        exact ⟨szle (by simp), fun a H2 n2 e2 c2 => ⟨a, rfl, c2, n2, e2⟩⟩
      · rintro _ H2 ⟨a, rfl, c2, n2, e2⟩
        exact q _ _ c2 n2 e2
    | cnt n h =>
      have hn := isNum_nat (n := n) (by omega)
      have hi := isNum_int hn.1
      walk_at "no"
      walk_at "yes"
      refine g_midE (fun v H' => ∃ a, v = .ref a ∧ Ch K [] H H' ∧ H a = none ∧ H' a = some (.lst (strW (List.replicate n .part)))) ?_ ?_
      · walk_at "g"
        refine ⟨_, rfl, by omega, _, rfl, ?_⟩
        refine tkT (by unfold isCntL; rw [hn.1, hn.2]; simp; omega) ?_
        walk_at "g"
        refine ⟨szle (by simp), fun a H2 n2 e2 c2 => ?_⟩
        have hi1 := hi.1
        rw [hn.2] at hi1
        walk_at "g"
        refine ⟨hi.2, a, n, _, rfl, rfl, e2, by omega, by omega, by rw [sizeLine_eq]; simp; omega, fun p H3 n3 e3 c3 => ?_⟩
        rw [Int.toNat_natCast, rep1] at e3
        exact ⟨p, rfl, c2.trans c3, c2.free n3 (by simp), e3⟩
      · rintro _ H2 ⟨a, rfl, c2, n2, e2⟩
        exact q _ _ c2 n2 e2
    | pnum i h1 h2 =>
      walk_at "no"
      walk_at "no"
      walk_at "yes"
      exact ⟨_, _, _, rfl, ok0, fun H4 a c4 n4 e4 => q _ _ c4 n4 e4⟩
    | pname i h =>
      walk_at "no"
      walk_at "no"
      walk_at "yes"
      exact ⟨_, _, _, rfl, ok0, fun H4 a c4 n4 e4 => q _ _ c4 n4 e4⟩
    | op p h =>
      walk_at "no"
      walk_at "no"
      walk_at "yes"
      exact ⟨_, _, _, rfl, ok0, fun H4 a c4 n4 e4 => q _ _ c4 n4 e4⟩
    | fn =>
      walk_at "no"
      walk_at "no"
      walk_at "no"
      walk_at "yes"
      refine tkT rfl ?_
      walk_at "g"
      have hL := C.l_BEHIND_FUN H
      refine ⟨_, _, rfl, .inl hL, fun a na => ?_⟩
      exact q _ _ (Ch.new na) na upd_same
    | nd =>
      walk_at "no"
      walk_at "no"
      walk_at "no"
      walk_at "yes"
      refine tkF rfl ?_
      walk_at "g"
      exact ⟨szle (by simp), fun a H2 n2 e2 c2 => q _ _ c2 n2 e2⟩
    | els =>
      walk_at "no"
      walk_at "no"
      walk_at "no"
      walk_at "yes"
      refine tkF rfl ?_
      walk_at "g"
      exact ⟨szle (by simp), fun a H2 n2 e2 c2 => q _ _ c2 n2 e2⟩
    | deed d k hk =>
      have e0 : decide (V.str (wdT (.d d)) = V.str (wtS k)) = false := by
        rcases hk with rfl | rfl <;> (cases d <;> rfl)
      obtain ⟨a, ha, hS⟩ := deeds_tab C (.d d)
      rcases hk with rfl | rfl
      all_goals
        walk_at "no"
        walk_at "no"
        walk_at "no"
        refine tkF e0 ?_
        walk_at "g"
        refine ⟨_, _, rfl, rfl, ha, ?_⟩
        walk_at "g"
        walk_at "yes"
        walk_at "yes"
        unfold StX.tStar
        walk_at "g"
        refine ⟨.d d, rfl, trivial, fun H4 a4 c4 n4 e4 => ?_⟩
        refine ⟨_, _, rfl, .inr (SqL.of e4), ?_⟩
        walk_at "g"
        have hl := wantsW_len (.d d)
        refine ⟨by rw [sizeLine_eq, List.length_append, strW, List.length_map]; simp; omega, fun a5 H5 n5 e5 c5 => ?_⟩
        refine q _ _ (c4.trans c5) (c4.free n5 (by simp)) ?_
        rw [e5, strW, strW, List.map_append]
        rfl
end
end K3
end

section
set_option maxRecDepth 100000
set_option maxHeartbeats 1000000
open Bq L2
/-- one step of a reading; what is left are side goals and places to think -/
local macro_rules | `(tactic| walk_at "g1") => `(tactic| first
  | with_reducible refine' g_seq ?_ | with_reducible refine' g_asg ?_ | with_reducible refine' g_drop ?_ | with_reducible refine' g_ret ?_ | with_reducible refine' g_ifS ?_ | with_reducible refine' g_asgG ?_
  | ((with_reducible refine' g_var ?hv ?_); (case hv => rfl))
  | with_reducible refine' g_c ?_ | with_reducible refine' g_op ?_ | with_reducible refine' g_un ?_ | with_reducible refine' g_I0 ?_ | with_reducible refine' g_U ?_
  | with_reducible refine' g_test ?_ | with_reducible refine' g_tB ?_ | with_reducible refine Exists.intro _ (And.intro rfl ?_) 
  | ((with_reducible refine' g_andP ?ha ?hb ?_); (case ha => intro R q; walk_at "g"; exact q); (case hb => intro R q; walk_at "g"; exact q))
  | ((with_reducible refine' g_orP ?ha ?hb ?_); (case ha => intro R q; walk_at "g"; exact q); (case hb => intro R q; walk_at "g"; exact q))
  | with_reducible refine' g_and ?_ | with_reducible refine' g_or ?_ | with_reducible refine' g_not ?_
  | with_reducible refine' g_andV ?_ | with_reducible refine' g_orV ?_ | with_reducible refine' g_notV ?_ | with_reducible refine' g_if ?_ | with_reducible refine' g_nil ?_ | with_reducible refine' g_cons ?_
  | with_reducible refine' g_tup ?_ | with_reducible refine' g_lst ?_ | with_reducible refine' g_CB ?_ | with_reducible refine' g_Fn ?_ | with_reducible refine' g_next ?_ | with_reducible refine' g_retN ?_
  | with_reducible refine' g_name ?_ | with_reducible refine' g_sub ?_
  | ((with_reducible refine' g_ixL ?hs ?he ?_); (case hs => walk_at "lk"); (case he => walk_at "at"))
  | ((with_reducible refine' g_ixT ?hs ?he ?_); (case hs => walk_at "lk"); (case he => walk_at "at"))
  | ((with_reducible refine' g_setL ?hs ?he ?_); (case hs => walk_at "hp"); (case he => rfl))
  | ((with_reducible refine' g_app ?hs ?hz ?_); (case hs => walk_at "hp"); (case hz => walk_at "sz"))
  | ((with_reducible refine' ⟨_, _, rfl, Or.inl ?hs, ?_⟩); (case hs => walk_at "lk"))
  | ((with_reducible refine' ⟨_, _, rfl, Or.inr ?hs, ?_⟩); (case hs => walk_at "lk"))
  | with_reducible refine' g_BM ?_ | with_reducible refine' g_BM0 ?_ | ((with_reducible refine' g_tyL ?hs ?_); (case hs => walk_at "lk"))
  | with_reducible refine' g_sl ?_ | with_reducible refine' g_noPart ?_ | with_reducible refine' g_part ?_
  | ((with_reducible refine' g_inT ?hs ?fx ?fs ?_); (case hs => walk_at "lk"); (case fx => rfl); (case fs => rfl))
  | with_reducible refine' g_pair ?_ | with_reducible refine' g_pair0 ?_ | with_reducible refine' g_disp ?_
  | with_reducible refine' g_for ?_ | with_reducible refine' g_tupC ?_ | with_reducible refine' g_lstC ?_ | ((with_reducible refine' g_lens ?_)) | with_reducible refine' g_dg ?_ | with_reducible refine' g_lc ?_ | with_reducible refine' g_rng1 ?_ | with_reducible refine' g_ilist ?_ | with_reducible refine' g_itup ?_
  | ((with_reducible refine' ⟨_, _, rfl, ?hd, ?_⟩); (case hd => walk_at "dg"))
  | ((with_reducible refine' g_eqNil ?hs ?hz ?_); (case hs => walk_at "lk"); (case hz => walk_at "lk"))
  | ((with_reducible refine' g_neNil ?hs ?hz ?_); (case hs => walk_at "lk"); (case hz => walk_at "lk"))
  | with_reducible refine Or.inl ⟨_, rfl, ?_⟩
  | with_reducible refine Or.inr ⟨_, rfl, ?_⟩
  | ((with_reducible refine' g_eq ?hs ?_); (case hs => rfl))
  | ((with_reducible refine' g_ne ?hs ?_); (case hs => rfl))
  | ((with_reducible refine' g_I ?hc ?_); (case hc => walk_at "ar")))
/-- arithmetic's side conditions -/
local macro_rules | `(tactic| walk_at "ar") => `(tactic| (first
  | (show (0 : Int) < _; first | omega | decide) | (show (0 : Int) < _ ∧ _; constructor <;> omega) | (show ¬ (_ : Int) = _; omega) | (show (_ : Int) ≠ _ ∧ _; constructor <;> omega)
  | (show (-(2 ^ 64) < _ ∧ _) ∨ _; (first | (left; constructor <;> omega) | (right; constructor <;> omega))) | (show (0 : Int) ≤ _ ∧ _ ∧ _; refine ⟨by omega, by omega, by decide⟩)))
/-- what stands at an index -/
local macro_rules | `(tactic| walk_at "at") => `(tactic| first | rfl | assumption)
/-- what stands at an address -/
local macro_rules | `(tactic| walk_at "hp") => `(tactic| first | assumption | exact upd_same | ((refine' Eq.trans (upd_ne ?hn) ?hm); (case hm => walk_at "hp"); (case hn => walk_at "ne")))
/-- two places are two -/
local macro_rules | `(tactic| walk_at "ne") => `(tactic| first
  | assumption | exact Ne.symm (by assumption)
  | ((refine' ne_of_none ?ha ?hb); (case hb => assumption); (case ha => walk_at "hp")) | ((refine' Ne.symm (ne_of_none ?ha ?hb)); (case hb => assumption); (case ha => walk_at "hp")))
/-- what a dict tells -/
local macro_rules | `(tactic| walk_at "dg") => `(tactic| first | assumption)
/-- a length -/
local macro_rules | `(tactic| walk_at "sz") => `(tactic| first | (show _ ≤ sizeLine; decide) | (show _ < sizeLine; decide) | assumption | exact szlt (by simp) | exact szle (by simp))
/-- a list or tuple that stands -/
local macro_rules | `(tactic| walk_at "lk") => `(tactic| first | assumption | exact SqL.of (by assumption) | exact SqT.of (by assumption) | exact SqL.of upd_same | exact SqT.of upd_same | (refine' FzL.sq ?hm; (case hm => walk_at "fz")))
/-- a list that nobody writes -/
local macro_rules | `(tactic| walk_at "fz") => `(tactic| first | assumption | ((refine' FzL.uw ?hm ?hx); (case hx => walk_at "hp"); (case hm => walk_at "fz")) | ((refine' FzL.nw ?hm ?hx); (case hx => assumption); (case hm => walk_at "fz")))
/-- as far as it goes by itself -/
local macro_rules | `(tactic| walk_at "g") => `(tactic| repeat walk_at "g1")
/-- the body's reading, its places in short -/
local macro_rules | `(tactic| walk_at "go") => `(tactic| ((try dsimp only [cxOf, Cx.nox, Cx.wish]); walk_at "g"))
namespace K3
open PySem PySem.Spec PyProof.Rows L2 Bq
section
variable {P : Program} {w : World} {K : PySem.W.Frag} {mg : Str → Option Value} {base : Heap}
/-- further steps: dicts written, tuples taken apart -/
local macro_rules | `(tactic| walk_at "g1") => `(tactic| first
  | with_reducible refine' g_sdput ?_
  | ((with_reducible refine' g_gtup ?hs ?hl ?_); (case hs => walk_at "lk"); (case hl => rfl))
  | with_reducible refine' g_gcons ?_
  | with_reducible refine' g_gnil ?_
  | with_reducible refine' And.intro (Eq.refl V.non) ?_
  | with_reducible refine' g_isN ?_
  | ((with_reducible refine' g_chainR ?ha ?hb ?hc ?_); (case ha => intro R q; walk_at "g"; exact q); (case hb => intro R q; walk_at "g"; exact q); (case hc => intro R q; walk_at "g"; exact q))
  | with_reducible refine' g_notN ?_)
/-- what the law's dict tells -/
local macro_rules | `(tactic| walk_at "dg") => `(tactic| first
  | assumption
  | exact LH.gfuns (by assumption)
  | exact LH.gsaid (by assumption)
  | exact LH.gcells (by assumption)
  | exact LH.gfuel (by assumption)
  | exact LH.gend (by assumption)
  | exact LH.gcalls (by assumption)
  | exact LH.gnames (by assumption)
  | exact LH.gwaits (by assumption)
  | exact LH.gworth (by assumption)
  | exact LH.glook (by assumption))
/-- a test that fails, that holds, by itself -/
local macro_rules | `(tactic| walk_at "no") => `(tactic| ((refine tkF rfl ?_); walk_at "g"))
local macro_rules | `(tactic| walk_at "yes") => `(tactic| ((refine tkT rfl ?_); walk_at "g"))
local macro_rules | `(tactic| walk_at "g1") => `(tactic| first
  | with_reducible refine' g_catS ?_
  | with_reducible refine' g_mulS ?_
  | with_reducible refine' g_rev ?_)
/-- texts: methods, signs, slices -/
local macro_rules | `(tactic| walk_at "g1") => `(tactic| first
  | with_reducible refine' g_tm0 ?_
  | with_reducible refine' g_tm1 ?_
  | with_reducible refine' g_isdig ?_
  | with_reducible refine' g_isasc ?_
  | with_reducible refine' g_starts ?_
  | with_reducible refine' g_str0 ?_
  | with_reducible refine' g_revL ?_
  | with_reducible refine' g_nilTrue ?_
  | with_reducible refine' g_chainT ?_)
/-! ### two lists of texts -/
def rNeStrs (K : PySem.W.Frag) : R2 := fun x y H Q => ∃ p q, ∃ xs ys : List Str, x = .ref p ∧ y = .ref q ∧ SqL K H p (xs.map V.str) ∧ SqL K H q (ys.map V.str) ∧ Q (.bl (!decide (xs = ys))) H
theorem all_range {xs ys : List Str} (hl : xs.length = ys.length) : (List.range xs.length).all (fun j => decide (xs[j]? = ys[j]?)) = decide (xs = ys) := by
  by_cases h : xs = ys
  · subst h
    simp
  · rw [decide_eq_false h, List.all_eq_false]
    apply Classical.byContradiction
    intro hn
    apply h
    apply List.ext_getElem? 
    intro j
    by_cases hj : j < xs.length
    · apply Classical.byContradiction
      intro hne
      exact hn ⟨j, List.mem_range.mpr hj, by simpa using hne⟩
    · rw [List.getElem?_eq_none (by omega), List.getElem?_eq_none (by omega)]
theorem op_neStrs {X : Cx} (hu : X.A.units < cLine) : OpR X (compareOp .NotEq) (rNeStrs X.K) := by
  intro pins s σ H x y v u Q I rx ry h
  obtain ⟨p, q, xs, ys, rfl, rfl, hp, hq, k⟩ := h
  cases rx
  cases ry
  obtain ⟨its, rv, pl, _⟩ := I.list hp
  obtain ⟨its2, rv2, pl2, _⟩ := I.list hq
  have l1 : its.length = xs.length := by rw [← rv.length, List.length_map]
  have l2 : its2.length = ys.length := by rw [← rv2.length, List.length_map]
  by_cases hl : xs.length = ys.length
  · have hsz : its.toArray.size = its2.toArray.size := by simp; omega
    refine PySem.SeqAt.RcNeAt.lists (e := fun j => decide (xs[j]? = ys[j]?)) pl.isList pl2.isList hsz hu (fun j h1 h2 => ?_) X.prog X.w _ _ ⟨.bl _, H, I, rfl, ?_⟩
    · have j1 : j < its.length := by simpa using h1
      have j2 : j < its2.length := by simpa using h2
      have e1 : (xs.map V.str)[j]? = some (V.str (xs[j]'(by omega))) := by rw [List.getElem?_map, List.getElem?_eq_getElem (by omega)]; rfl
      have e2 : (ys.map V.str)[j]? = some (V.str (ys[j]'(by omega))) := by rw [List.getElem?_map, List.getElem?_eq_getElem (by omega)]; rfl
      obtain ⟨u1, hu1, ru1⟩ := rv.get e1
      obtain ⟨u2, hu2, ru2⟩ := rv2.get e2
      obtain ⟨t1, rfl⟩ := ru1
      obtain ⟨t2, rfl⟩ := ru2
      have f1 : its.toArray[j] = Value.str (xs[j]'(by omega)) t1 := by
        rw [List.getElem?_eq_getElem j1] at hu1
        simpa using Option.some.inj hu1
      have f2 : its2.toArray[j] = Value.str (ys[j]'(by omega)) t2 := by
        rw [List.getElem?_eq_getElem j2] at hu2
        simpa using Option.some.inj hu2
      rw [f1, f2, List.getElem?_eq_getElem (by omega), List.getElem?_eq_getElem (by omega)]
      have : decide (some (xs[j]'(by omega)) = some (ys[j]'(by omega))) = (xs[j]'(by omega) == ys[j]'(by omega)) := by
        rw [Bool.eq_iff_iff]
        simp
      rw [this]
      exact PySem.SeqAt.EqAt.str_str _ _ _ _
    · have : (List.range its.toArray.size).all (fun j => decide (xs[j]? = ys[j]?)) = decide (xs = ys) := by
        rw [show its.toArray.size = xs.length by simp; omega]
        exact all_range hl
      rw [this]
      exact k
  · refine PySem.SeqAt.RcNeAt.lists_lengths pl.isList pl2.isList (by simp; omega) hu X.prog X.w _ _ ⟨.bl true, H, I, rfl, ?_⟩
    rw [decide_eq_false (fun h => hl (by rw [h]))] at k
    exact k
theorem g_neStrs {p q : Addr} {xs ys : List Str} {H : Hp} {Q : VK} (h : SqL K H p (xs.map V.str)) (h2 : SqL K H q (ys.map V.str)) (k : Q (.bl (!decide (xs = ys))) H) : rNeStrs K (.ref p) (.ref q) H Q := ⟨p, q, xs, ys, rfl, rfl, h, h2, k⟩
/-! ### words read, one by one -/
inductive Rn : List WT → List Wt → List Wt → Prop where
  | nil (W : List Wt) : Rn [] W W
  | cons {w : Str} {t : T} {k : Wt} {l : List Wt} {r : List WT} {W W' : List Wt} (h : Okq w t k l) (n : Rn r (l ++ W) W') : Rn ((w, t) :: r) (k :: W) W'
theorem Rn.app : ∀ {a b : List WT} {W W1 W2 : List Wt}, Rn a W W1 → Rn b W1 W2 → Rn (a ++ b) W W2
  | _, _, _, _, _, .nil _, h => h
  | _, _, _, _, _, .cons o n, h => .cons o (n.app h)
mutual
theorem rn_p : ∀ {p : Pt}, txP p → ∀ W, Rn (xp p) (.part :: W) W
  | .num n, h, W => .cons (.pnum n h.1 h.2) (.nil W)
  | .name i, h, W => .cons (.pname i h) (.nil W)
  | .bin op a b, h, W => .cons (.op (.bin op a b) trivial) ((rn_p h.1 (.part :: W)).app (rn_p h.2 W))
  | .nt a, h, W => .cons (.op (.nt a) trivial) (rn_p (p := a) h W)
  | .get a, h, W => .cons (.op (.get a) trivial) (rn_p (p := a) h W)
  | .call f ps, h, W => .cons (.op (.call f ps) trivial) (.cons (.num f (by omega) (by have := h.1; omega)) (.cons (.cnt ps.length (by have := h.2.1; omega)) (rn_ps h.2.2 W)))
theorem rn_ps : ∀ {ps : List Pt}, txPs ps → ∀ W, Rn (xps ps) (List.replicate ps.length .part ++ W) W
  | [], _, W => .nil W
  | p :: r, h, W => (rn_p h.1 (List.replicate r.length .part ++ W)).app (rn_ps h.2 W)
end
mutual
theorem rn_d : ∀ {d : Dd}, txD d → ∀ k W, k = .nd ∨ k = .els → Rn (xd d) (k :: W) (k :: W)
  | .set i p, h, k, W, hk => .cons (.deed (.set i p) k hk) (.cons (.num i (by omega) (by have := h.1; omega)) (rn_p h.2 (k :: W)))
  | .put c p, h, k, W, hk => .cons (.deed (.put c p) k hk) ((rn_p h.1 (.part :: k :: W)).app (rn_p h.2 (k :: W)))
  | .say p, h, k, W, hk => .cons (.deed (.say p) k hk) (rn_p (p := p) h (k :: W))
  | .ite p a b, h, k, W, hk => .cons (.deed (.ite p a b) k hk) ((rn_p h.1 (.els :: .nd :: k :: W)).app ((rn_b h.2.1 .els (.nd :: k :: W) (.inr rfl)).app (.cons .els ((rn_b h.2.2 .nd (k :: W) (.inl rfl)).app (.cons .nd (.nil _))))))
  | .whl p b, h, k, W, hk => .cons (.deed (.whl p b) k hk) ((rn_p h.1 (.nd :: k :: W)).app ((rn_b h.2 .nd (k :: W) (.inl rfl)).app (.cons .nd (.nil _))))
  | .ret p, h, k, W, hk => .cons (.deed (.ret p) k hk) (rn_p (p := p) h (k :: W))
  | .dop p, h, k, W, hk => .cons (.deed (.dop p) k hk) (rn_p (p := p) h (k :: W))
theorem rn_b : ∀ {b : List Dd}, txB b → ∀ k W, k = .nd ∨ k = .els → Rn (xb b) (k :: W) (k :: W)
  | [], _, k, W, _ => .nil _
  | d :: r, h, k, W, hk => (rn_d h.1 k W hk).app (rn_b h.2 k W hk)
end
theorem rn_f {f : Fu} (h1 : f.ps ≤ 9) (h2 : f.nm ≤ 9) (h : txB f.body) (W : List Wt) : Rn (xf f) (.fn :: W) (.fn :: W) :=
  .cons .fn (.cons (.num f.ps (by omega) (by omega)) (.cons (.num f.nm (by omega) (by omega)) ((rn_b h .nd (.fn :: W) (.inl rfl)).app (.cons .nd (.nil _)))))
theorem rn_fs : ∀ {fs : List Fu}, (∀ f ∈ fs, f.ps ≤ 9 ∧ f.nm ≤ 9 ∧ txB f.body) → Rn (xfs fs) [.fn] [.fn]
  | [], _ => .nil _
  | f :: r, h => (rn_f (h f (by simp)).1 (h f (by simp)).2.1 (h f (by simp)).2.2 []).app (rn_fs fun g hg => h g (by simp [hg]))
def spItems (K : PySem.W.Frag) : Sp := fun vs H Q _ => ∃ a x, vs = [.ref a] ∧ SqL K H a ((ww x).map V.str) ∧ Rn x [.fn] [.fn] ∧ x.length ≤ 100000 ∧ ∀ H' l us, Ch K [] H H' → H l = none → H' l = some (.lst us) → Reps K H' us (wt x) → Q (.ref l) H'
theorem Rn.uncons {x : List WT} {W W' : List Wt} {i : Nat} {q : WT} (h : Rn (x.drop i) W W') (hx : x[i]? = some q) : ∃ k l V, W = k :: V ∧ Okq q.1 q.2 k l ∧ Rn (x.drop (i + 1)) (l ++ V) W' := by
  have e : x.drop i = q :: x.drop (i + 1) := by
    rw [List.drop_eq_getElem_cons (List.getElem?_eq_some_iff.mp hx).1]
    congr 1
    exact (List.getElem?_eq_some_iff.mp hx).2
  rw [e] at h
  cases h with
  | cons o n => exact ⟨_, _, _, rfl, o, n⟩
theorem strW_len (l : List Wt) : (strW l).length = l.length := List.length_map ..
theorem reps_snoc {H : Hp} {vs : List V} {ts : List T} {v : V} {t : T} (r : Reps K H vs ts) (h : Rep K H v t) : Reps K H (vs ++ [v]) (ts ++ [t]) := r.append (.cons h .nil)
theorem own0 {H : Hp} : Own K H H [] := ⟨Ch.refl, by simp, by simp, by simp⟩
theorem own2 {H0 H : Hp} {a b : Addr} {x y : HO} (o : Own K H0 H [(a, x), (b, y)]) : Own K H0 H [(b, y), (a, x)] := o.perm (.swap ..)
theorem fn_items_of (C : Cn w K mg base) : Fn P w K mg base CX0 6 "items_of" ["words"] (spItems K) := C.f_items_of fun fd F => by
  have F_wants_behind : Fn P w K mg base CX0 5 "wants_behind" ["word", "want"] (spWants K) := fn_wants C
  have F_item_of : Fn P w K mg base CX0 4 "item_of" ["word", "want"] (spItem K) := fn_item_of C
  refine F.ok (CX := CX0) sc_items_of (fun vs H Q E h => ?_) (fun cdv A outer s H vs Q E hr h => ?_)
  · obtain ⟨a, x, rfl, _⟩ := h
    rfl
  · obtain ⟨a, x, rfl, ha, rn, lx, q⟩ := h
    have hu0 := (hr.mono (j := 1) (by decide)).units0
    refine ⟨_, PSs.nox (pss_cons (ps_set (i := 1) sc_items_of.nd rfl (Or.inl rfl) (pe_lstC (pa_cons pe_str pa_nil)))
      (pss_cons (ps_set (i := 2) sc_items_of.nd rfl (Or.inl rfl) (pe_lstC pa_nil))
      (pss_cons (ps_for PassesOwn.never rfl (pi_enum (by rfl) (C.m_enumerate) (pa_cons (pv 0) pa_nil)) (pg_tup rfl (pgs_cons (pg_name (i := 3) sc_items_of.nd rfl (Or.inl rfl)) (pgs_cons (pg_name (i := 4) sc_items_of.nd rfl (Or.inl rfl)) pgs_nil))) (pss_cons (ps_set (i := 5) sc_items_of.nd rfl (Or.inl rfl) (pe_bm0 PySem.F.plainAttrs_list PySem.F.slot_list_pop PySem.F.type_list_pop mt_pop (pv 1)))
      (pss_cons (ps_set (i := 6) sc_items_of.nd rfl (Or.inl rfl) (pe_fn F_wants_behind (rmm hr) (by rfl) pass0 (pa_cons (pv 4) (pa_cons (pv 5) pa_nil))))
      (pss_cons (ps_if (pt_cmpR op_isN (pv 6) pe_non (nomark _)) (pss_one ps_never) pss_nil)
      (pss_cons (ps_expr (pe_bm PySem.F.plainAttrs_list PySem.F.slot_list_extend PySem.F.type_list_extend mt_extend (pv 1) (pa_cons (pe_revL (pv 6)) pa_nil)))
      (pss_one (ps_expr (pe_bm PySem.F.plainAttrs_list PySem.F.slot_list_append PySem.F.type_list_append mt_append (pv 2) (pa_cons (pe_fn F_item_of (rmm hr) (by rfl) pass0 (pa_cons (pv 4) (pa_cons (pv 5) pa_nil))) pa_nil)))))))))
      (pss_cons (ps_if (pt_cmpR (op_neStrs hu0) (pv 1) (pe_lstC (pa_cons pe_str pa_nil)) (nomark _)) (pss_one ps_never) pss_nil)
      (pss_one (ps_ret (pv 2))))))), ?_⟩
    walk_at "go"
    refine ⟨szle (by simp), fun wl H1 n1 e1 c1 => ?_⟩
    walk_at "g"
    refine ⟨szle (by simp), fun il H2 n2 e2 c2 => ?_⟩
    have o2 : Own K H H2 [(il, .lst []), (wl, .lst [V.str "fun"])] := by
      have o1 : Own K H H1 [(wl, .lst [V.str "fun"])] := by
        have o0 : Own K H H [] := ⟨Ch.refl, by simp, by simp, by simp⟩
        exact o0.new n1 c1 e1
      exact o1.new n2 c2 e2
    have ha2 : SqL K H2 a ((ww x).map V.str) := o2.c.sqL ha (by simp)
    walk_at "g"
    unfold iEnum
    walk_at "g"
    have lw : ((ww x).map V.str).length = x.length := by rw [List.length_map, ww_len]
    refine for_it (n := ((ww x).map V.str).length) (walk_enum (xs := (ww x).map V.str)) (fun i σ H' => ∃ x3 x4 x5 x6 W vs, σ = [some (.ref a), some (.ref wl), some (.ref il), x3, x4, x5, x6] ∧ Own K H H' [(il, .lst vs), (wl, .lst (strW W).reverse)] ∧ Rn (x.drop i) W [.fn] ∧ W.length ≤ 1 + 9 * i ∧ Reps K H' vs ((wt x).take i)) ⟨none, none, none, none, [.fn], [], rfl, o2, rn, by simp, .nil⟩ (fun i σ H' _ ⟨_, _, _, _, _, _, _, o, _⟩ => o.c.sqL ha (by simp)) ?_ ?_
    · rintro i x1 σ H3 H4 hi ⟨x3, x4, x5, x6, W, vs, rfl, o, rn', lW, rp⟩ ⟨T1, xa, xb, rfl, nT, rfl, exa, exb⟩
      cases exa
      have hix : i < x.length := by omega
      obtain ⟨q0, hq0⟩ : ∃ q0, x[i]? = some q0 := ⟨_, List.getElem?_eq_getElem hix⟩
      have hxb : xb = V.str q0.1 := by
        have exb : ((ww x).map V.str)[i]? = some xb := exb
        rw [List.getElem?_map, ww, List.getElem?_map, hq0] at exb
        exact (Option.some.inj exb).symm
      subst hxb
      obtain ⟨k, l, W2, rfl, ok, rn2⟩ := rn'.uncons hq0
      have c4 : Ch K [] H3 (upd H3 T1 (.tup [.int (i : Nat), V.str q0.1])) := Ch.new nT
      have o4 := o.ch c4
      have r4 := rp.kt c4.kt
      have eT : (upd H3 T1 (.tup [.int (i : Nat), V.str q0.1])) T1 = some (.tup [.int (i : Nat), V.str q0.1]) := upd_same
      generalize upd H3 T1 (.tup [.int (i : Nat), V.str q0.1]) = H4 at c4 o4 r4 eT ⊢
      refine g_gtup (SqT.of eT) rfl ?_
      have ew := (own2 o4).at_ (l1 := [])
      walk_at "g"
      refine ⟨wl, _, V.str (wtS k), rfl, rfl, ew, by simp [strW], ?_⟩
      have o5 := (own2 o4).wr (l1 := []) (o := .lst ((strW (k :: W2)).reverse.dropLast)) rfl
      have c5 : Ch K [wl] H4 (upd H4 wl (.lst ((strW (k :: W2)).reverse.dropLast))) := Ch.wrL ew (by simp)
      have r5 := r4.kt c5.kt
      generalize upd H4 wl (.lst ((strW (k :: W2)).reverse.dropLast)) = H5 at o5 c5 r5 ⊢
      have edl : (strW (k :: W2)).reverse.dropLast = (strW W2).reverse := by simp [strW]
      rw [edl] at o5
      walk_at "g"
      refine ⟨_, _, _, _, rfl, ok, fun H6 b c6 n6 e6 => ?_⟩
      have o6 := o5.new n6 c6 e6
      have r6 := r5.kt c6.kt
      have ew6 : H6 wl = some (.lst (strW W2).reverse) := o6.h (wl, _) (by simp)
      have el6 : H6 il = some (.lst vs) := o6.h (il, _) (by simp)
      walk_at "g"
      walk_at "no"
      refine ⟨b, _, rfl, SqL.of e6, fun p np => ?_⟩
      have o7 := o6.new np (Ch.new np) upd_same (o := .lst (strW l).reverse)
      have r7 := r6.kt (Ch.new (S := []) (o := .lst (strW l).reverse) np).kt
      have ep : (upd H6 p (.lst (strW l).reverse)) p = some (.lst (strW l).reverse) := upd_same
      generalize upd H6 p (.lst (strW l).reverse) = H7 at o7 r7 ep ⊢
      have ew7 : H7 wl = some (.lst (strW W2).reverse) := o7.h (wl, _) (by simp)
      have el7 : H7 il = some (.lst vs) := o7.h (il, _) (by simp)
      have ll := ok.wlen
      have hlen : (strW W2).reverse.length + (strW l).reverse.length ≤ sizeLine := by
        rw [List.length_reverse, List.length_reverse, strW_len, strW_len, sizeLine_eq]
        simp only [List.length_cons] at lW
        omega
      walk_at "g"
      refine ⟨wl, p, _, _, rfl, rfl, ew7, ep, hlen, ?_⟩
      have o7' : Own K H H7 ([] ++ (wl, .lst (strW W2).reverse) :: [(il, .lst vs)]) := ⟨o7.c, fun r hr => o7.h r (by simp at hr; rcases hr with rfl | rfl <;> simp), fun r hr => o7.f r (by simp at hr; rcases hr with rfl | rfl <;> simp), by
        have := o7.nd
        simp only [List.map_cons, List.map_nil, List.nodup_cons, List.nil_append] at this ⊢
        exact ⟨fun h => this.2.2.1 (by simpa using h), this.2.2.2.1, by simp⟩⟩
      have c8 : Ch K [wl] H7 (upd H7 wl (.lst ((strW W2).reverse ++ (strW l).reverse))) := Ch.wrL ew7 (by simp)
      have o8 := o7'.wr (o := .lst ((strW W2).reverse ++ (strW l).reverse)) rfl
      have r8 := r7.kt c8.kt
      generalize upd H7 wl (.lst ((strW W2).reverse ++ (strW l).reverse)) = H8 at o8 r8 c8 ⊢
      have el8 : H8 il = some (.lst vs) := o8.h (il, _) (by simp)
      walk_at "g"
      refine ⟨_, _, rfl, by have := ok.len; omega, ok.item.2, fun H9 v c9 r9 => ?_⟩
      have o9 := o8.ch c9
      have el9 : H9 il = some (.lst vs) := o9.h (il, _) (by simp)
      have vl : vs.length ≤ i := by rw [rp.len, List.length_take]; omega
      have hvz : vs.length < sizeLine := (by rw [sizeLine_eq]; omega)
      walk_at "g"
      have o10 := (own2 (a := wl) (b := il) o9).wr (l1 := []) (o := .lst (vs ++ [v])) rfl
      have c10 : Ch K [il] H9 (upd H9 il (.lst (vs ++ [v]))) := Ch.wrL el9 (by simp)
      refine ⟨_, _, _, _, l ++ W2, vs ++ [v], rfl, ?_, rn2, ?_, ?_⟩
      · have e0 : (strW (l ++ W2)).reverse = (strW W2).reverse ++ (strW l).reverse := by simp [strW]
        rw [e0]
        exact o10
      · rw [List.length_append]
        simp only [List.length_cons] at lW
        omega
      · have e1 : (wt x)[i]? = some q0.2 := by rw [wt, List.getElem?_map, hq0]; rfl
        rw [take_snoc e1]
        rw [ok.item.1] at r9
        exact reps_snoc (r8.kt (c9.trans (Ch.refl)).kt |>.kt c10.kt) (r9.kt c10.kt)
    · rintro σ H3 ⟨x3, x4, x5, x6, W, vs, rfl, o, rn', lW, rp⟩
      rw [lw, List.drop_length] at rn'
      cases rn'
      rw [lw, List.take_of_length_le (by rw [wt, List.length_map]; exact Nat.le_refl _)] at rp
      have ew := o.h (wl, .lst [V.str "fun"]) (by simp [strW, wtS])
      have el : H3 il = some (.lst vs) := o.h (il, _) (by simp)
      walk_at "g"
      refine ⟨szle (by simp), fun p H4 n4 e4 c4 => ?_⟩
      walk_at "g"
      refine g_neStrs (xs := ["fun"]) (ys := ["fun"]) (SqL.of (c4.up _ _ ew (by simp))) (SqL.of e4) ?_
      walk_at "g"
      walk_at "no"
      exact q _ _ vs (o.c.trans c4) (o.f (il, .lst vs) (by simp)) (c4.up _ _ el (by simp)) (rp.kt c4.kt)
end
end K3
end

section
set_option maxRecDepth 100000
set_option maxHeartbeats 1000000
open Bq L2
/-- one step of a reading; what is left are side goals and places to think -/
local macro_rules | `(tactic| walk_at "g1") => `(tactic| first
  | with_reducible refine' g_seq ?_ | with_reducible refine' g_asg ?_ | with_reducible refine' g_drop ?_ | with_reducible refine' g_ret ?_ | with_reducible refine' g_ifS ?_ | with_reducible refine' g_asgG ?_
  | ((with_reducible refine' g_var ?hv ?_); (case hv => rfl))
  | with_reducible refine' g_c ?_ | with_reducible refine' g_op ?_ | with_reducible refine' g_un ?_ | with_reducible refine' g_I0 ?_ | with_reducible refine' g_U ?_
  | with_reducible refine' g_test ?_ | with_reducible refine' g_tB ?_ | with_reducible refine Exists.intro _ (And.intro rfl ?_) 
  | ((with_reducible refine' g_andP ?ha ?hb ?_); (case ha => intro R q; walk_at "g"; exact q); (case hb => intro R q; walk_at "g"; exact q))
  | ((with_reducible refine' g_orP ?ha ?hb ?_); (case ha => intro R q; walk_at "g"; exact q); (case hb => intro R q; walk_at "g"; exact q))
  | with_reducible refine' g_and ?_ | with_reducible refine' g_or ?_ | with_reducible refine' g_not ?_
  | with_reducible refine' g_andV ?_ | with_reducible refine' g_orV ?_ | with_reducible refine' g_notV ?_ | with_reducible refine' g_if ?_ | with_reducible refine' g_nil ?_ | with_reducible refine' g_cons ?_
  | with_reducible refine' g_tup ?_ | with_reducible refine' g_lst ?_ | with_reducible refine' g_CB ?_ | with_reducible refine' g_Fn ?_ | with_reducible refine' g_next ?_ | with_reducible refine' g_retN ?_
  | with_reducible refine' g_name ?_ | with_reducible refine' g_sub ?_
  | ((with_reducible refine' g_ixL ?hs ?he ?_); (case hs => walk_at "lk"); (case he => walk_at "at"))
  | ((with_reducible refine' g_ixT ?hs ?he ?_); (case hs => walk_at "lk"); (case he => walk_at "at"))
  | ((with_reducible refine' g_setL ?hs ?he ?_); (case hs => walk_at "hp"); (case he => rfl))
  | ((with_reducible refine' g_app ?hs ?hz ?_); (case hs => walk_at "hp"); (case hz => walk_at "sz"))
  | ((with_reducible refine' ⟨_, _, rfl, Or.inl ?hs, ?_⟩); (case hs => walk_at "lk"))
  | ((with_reducible refine' ⟨_, _, rfl, Or.inr ?hs, ?_⟩); (case hs => walk_at "lk"))
  | with_reducible refine' g_BM ?_ | with_reducible refine' g_BM0 ?_ | ((with_reducible refine' g_tyL ?hs ?_); (case hs => walk_at "lk"))
  | with_reducible refine' g_sl ?_ | with_reducible refine' g_noPart ?_ | with_reducible refine' g_part ?_
  | ((with_reducible refine' g_inT ?hs ?fx ?fs ?_); (case hs => walk_at "lk"); (case fx => rfl); (case fs => rfl))
  | with_reducible refine' g_pair ?_ | with_reducible refine' g_pair0 ?_ | with_reducible refine' g_disp ?_
  | with_reducible refine' g_for ?_ | with_reducible refine' g_tupC ?_ | with_reducible refine' g_lstC ?_ | ((with_reducible refine' g_lens ?_)) | with_reducible refine' g_dg ?_ | with_reducible refine' g_lc ?_ | with_reducible refine' g_rng1 ?_ | with_reducible refine' g_ilist ?_ | with_reducible refine' g_itup ?_
  | ((with_reducible refine' ⟨_, _, rfl, ?hd, ?_⟩); (case hd => walk_at "dg"))
  | ((with_reducible refine' g_eqNil ?hs ?hz ?_); (case hs => walk_at "lk"); (case hz => walk_at "lk"))
  | ((with_reducible refine' g_neNil ?hs ?hz ?_); (case hs => walk_at "lk"); (case hz => walk_at "lk"))
  | with_reducible refine Or.inl ⟨_, rfl, ?_⟩
  | with_reducible refine Or.inr ⟨_, rfl, ?_⟩
  | ((with_reducible refine' g_eq ?hs ?_); (case hs => rfl))
  | ((with_reducible refine' g_ne ?hs ?_); (case hs => rfl))
  | ((with_reducible refine' g_I ?hc ?_); (case hc => walk_at "ar")))
/-- arithmetic's side conditions -/
local macro_rules | `(tactic| walk_at "ar") => `(tactic| (first
  | (show (0 : Int) < _; first | omega | decide) | (show (0 : Int) < _ ∧ _; constructor <;> omega) | (show ¬ (_ : Int) = _; omega) | (show (_ : Int) ≠ _ ∧ _; constructor <;> omega)
  | (show (-(2 ^ 64) < _ ∧ _) ∨ _; (first | (left; constructor <;> omega) | (right; constructor <;> omega))) | (show (0 : Int) ≤ _ ∧ _ ∧ _; refine ⟨by omega, by omega, by decide⟩)))
/-- what stands at an index -/
local macro_rules | `(tactic| walk_at "at") => `(tactic| first | rfl | assumption)
/-- what stands at an address -/
local macro_rules | `(tactic| walk_at "hp") => `(tactic| first | assumption | exact upd_same | ((refine' Eq.trans (upd_ne ?hn) ?hm); (case hm => walk_at "hp"); (case hn => walk_at "ne")))
/-- two places are two -/
local macro_rules | `(tactic| walk_at "ne") => `(tactic| first
  | assumption | exact Ne.symm (by assumption)
  | ((refine' ne_of_none ?ha ?hb); (case hb => assumption); (case ha => walk_at "hp")) | ((refine' Ne.symm (ne_of_none ?ha ?hb)); (case hb => assumption); (case ha => walk_at "hp")))
/-- what a dict tells -/
local macro_rules | `(tactic| walk_at "dg") => `(tactic| first | assumption)
/-- a length -/
local macro_rules | `(tactic| walk_at "sz") => `(tactic| first | (show _ ≤ sizeLine; decide) | (show _ < sizeLine; decide) | assumption | exact szlt (by simp) | exact szle (by simp))
/-- a list or tuple that stands -/
local macro_rules | `(tactic| walk_at "lk") => `(tactic| first | assumption | exact SqL.of (by assumption) | exact SqT.of (by assumption) | exact SqL.of upd_same | exact SqT.of upd_same | (refine' FzL.sq ?hm; (case hm => walk_at "fz")))
/-- a list that nobody writes -/
local macro_rules | `(tactic| walk_at "fz") => `(tactic| first | assumption | ((refine' FzL.uw ?hm ?hx); (case hx => walk_at "hp"); (case hm => walk_at "fz")) | ((refine' FzL.nw ?hm ?hx); (case hx => assumption); (case hm => walk_at "fz")))
/-- as far as it goes by itself -/
local macro_rules | `(tactic| walk_at "g") => `(tactic| repeat walk_at "g1")
/-- the body's reading, its places in short -/
local macro_rules | `(tactic| walk_at "go") => `(tactic| ((try dsimp only [cxOf, Cx.nox, Cx.wish]); walk_at "g"))
namespace K3
open PySem PySem.Spec PyProof.Rows L2 Bq
section
variable {P : Program} {w : World} {K : PySem.W.Frag} {mg : Str → Option Value} {base : Heap}
/-- further steps: dicts written, tuples taken apart -/
local macro_rules | `(tactic| walk_at "g1") => `(tactic| first
  | with_reducible refine' g_sdput ?_
  | ((with_reducible refine' g_gtup ?hs ?hl ?_); (case hs => walk_at "lk"); (case hl => rfl))
  | with_reducible refine' g_gcons ?_
  | with_reducible refine' g_gnil ?_
  | with_reducible refine' And.intro (Eq.refl V.non) ?_
  | with_reducible refine' g_isN ?_
  | ((with_reducible refine' g_chainR ?ha ?hb ?hc ?_); (case ha => intro R q; walk_at "g"; exact q); (case hb => intro R q; walk_at "g"; exact q); (case hc => intro R q; walk_at "g"; exact q))
  | with_reducible refine' g_notN ?_)
/-- what the law's dict tells -/
local macro_rules | `(tactic| walk_at "dg") => `(tactic| first
  | assumption
  | exact LH.gfuns (by assumption)
  | exact LH.gsaid (by assumption)
  | exact LH.gcells (by assumption)
  | exact LH.gfuel (by assumption)
  | exact LH.gend (by assumption)
  | exact LH.gcalls (by assumption)
  | exact LH.gnames (by assumption)
  | exact LH.gwaits (by assumption)
  | exact LH.gworth (by assumption)
  | exact LH.glook (by assumption))
/-- a test that fails, that holds, by itself -/
local macro_rules | `(tactic| walk_at "no") => `(tactic| ((refine tkF rfl ?_); walk_at "g"))
local macro_rules | `(tactic| walk_at "yes") => `(tactic| ((refine tkT rfl ?_); walk_at "g"))
local macro_rules | `(tactic| walk_at "g1") => `(tactic| first
  | with_reducible refine' g_catS ?_
  | with_reducible refine' g_mulS ?_
  | with_reducible refine' g_rev ?_)
/-- texts: methods, signs, slices -/
local macro_rules | `(tactic| walk_at "g1") => `(tactic| first
  | with_reducible refine' g_tm0 ?_
  | with_reducible refine' g_tm1 ?_
  | with_reducible refine' g_isdig ?_
  | with_reducible refine' g_isasc ?_
  | with_reducible refine' g_starts ?_
  | with_reducible refine' g_str0 ?_
  | with_reducible refine' g_revL ?_
  | with_reducible refine' g_nilTrue ?_
  | with_reducible refine' g_chainT ?_)
theorem pe_bm0K (K : PySem.W.Frag) {X : Cx} {T id : String} {name : Str} {r : V → List V → Hp → VK → Prop} {o : Expr} {to : TE} {apos cpos : Pos} (pa : PlainAttrs T) (slot : Slot T name id) (hty : typeOf (.builtin id) = pure (.type "method_descriptor")) (hm : MtR X id r) (ho : PE X o to) (hK : X.K = K := by rfl)
    (hbase : attributeBase o name X.env (eval o X.env) = eval o X.env := by rfl) (hline : (apos.endLine == cpos.line) = true := by rfl) : PE X (.Call (.Attribute o name apos) [] [] cpos) (tBM0 K T r to) := by
  subst hK
  exact pe_bm0 pa slot hty hm ho hbase hline
/-! ### the pile: its top first -/
inductive Pi where
  | dat (t : T)
  | bod (l : List T)
inductive PR (K : PySem.W.Frag) (H : Hp) : List Pi → List V → List Addr → Prop where
  | nil : PR K H [] [] []
  | dat {v t S vs as} (h : Rep K H v t) (r : PR K H S vs as) : PR K H (.dat t :: S) (v :: vs) as
  | bod {b us l S vs as} (e : H b = some (.lst us)) (h : Reps K H us l) (r : PR K H S vs as) : PR K H (.bod l :: S) (.ref b :: vs) (b :: as)
def totP : List Pi → Nat
  | [] => 0
  | .dat _ :: r => 1 + totP r
  | .bod l :: r => 1 + l.length + totP r
section
variable {H H' : Hp} {S : List Pi} {vs : List V} {as W : List Addr}
theorem PR.ch (h : PR K H S vs as) (c : Ch K W H H') (d : ∀ b ∈ as, b ∉ W) : PR K H' S vs as := by
  induction h with
  | nil => exact .nil
  | dat h r ih => exact .dat (h.kt c.kt) (ih d)
  | bod e h r ih => exact .bod (c.up _ _ e (d _ (by simp))) (h.kt c.kt) (ih fun b hb => d b (by simp [hb]))
theorem PR.len (h : PR K H S vs as) : vs.length = S.length := by
  induction h with
  | nil => rfl
  | dat h r ih => exact congrArg Nat.succ ih
  | bod e h r ih => exact congrArg Nat.succ ih
theorem PR.some (h : PR K H S vs as) : ∀ b ∈ as, H b ≠ none := by
  induction h with
  | nil => simp
  | dat h r ih => exact ih
  | bod e h r ih =>
    intro b hb
    rcases List.mem_cons.mp hb with rfl | hb
    · rw [e]; simp
    · exact ih b hb
theorem len_tot : ∀ S : List Pi, S.length ≤ totP S
  | [] => Nat.le_refl _
  | .dat _ :: r => by have := len_tot r; simp only [List.length_cons, totP]; omega
  | .bod l :: r => by have := len_tot r; simp only [List.length_cons, totP]; omega
end
inductive Plc where
  | body | parts | one
def plc (z : Str) : Plc := if z = "body" then .body else if z = "parts" then .parts else .one
inductive Tk : Plc → List Pi → T → List Pi → Prop where
  | body {l S} : Tk .body (.bod l :: S) (.tup l.reverse) S
  | parts {ts S} : Tk .parts (.dat (.int (ts.length : Nat)) :: (ts.map Pi.dat ++ S)) (.tup ts) S
  | one {t S} : Tk .one (.dat t :: S) t S
inductive Tks : List Plc → List Pi → List T → List Pi → Prop where
  | nil {S} : Tks [] S [] S
  | cons {p ps S S1 S2 t ts} (h : Tk p S t S1) (r : Tks ps S1 ts S2) : Tks (p :: ps) S (t :: ts) S2
theorem tot_app (S U : List Pi) : totP (S ++ U) = totP S + totP U := by
  induction S with
  | nil => simp [totP]
  | cons p r ih => cases p <;> simp only [List.cons_append, totP, ih] <;> omega
theorem tot_dat (ts : List T) : totP (ts.map Pi.dat) = ts.length := by
  induction ts with
  | nil => rfl
  | cons t r ih => simp only [List.map_cons, totP, ih, List.length_cons]; omega
theorem Tk.tot {p : Plc} {S S' : List Pi} {t : T} (h : Tk p S t S') : totP S' < totP S := by
  cases h with
  | body => simp only [totP]; omega
  | parts => simp only [totP, tot_app]; omega
  | one => simp only [totP]; omega
theorem Tks.tot {ps : List Plc} {S S' : List Pi} {ts : List T} (h : Tks ps S ts S') : totP S' ≤ totP S := by
  induction h with
  | nil => exact Nat.le_refl _
  | cons h r ih => have := h.tot; omega
def spInTurn (K : PySem.W.Frag) : Sp := fun vs H Q _ => ∃ b us, vs = [.ref b] ∧ SqL K H b us ∧ ∀ H' p, Ch K [] H H' → H' p = some (.tup us.reverse) → Q (.ref p) H'
theorem fn_in_turn (C : Cn w K mg base) : Fn P w K mg base CX0 1 "in_turn" ["backwards"] (spInTurn K) := C.f_in_turn fun fd F => by
  refine F.ok (CX := CX0) sc_in_turn (fun vs H Q E h => ?_) (fun cdv A outer s H vs Q E hr h => ?_)
  · obtain ⟨b, us, rfl, _⟩ := h
    rfl
  · obtain ⟨b, us, rfl, hb, q⟩ := h
    refine ⟨_, PSs.nox (pss_one (ps_ret (pe_callTy call_tuple_of (by rfl) (C.m_tuple) (by decide +kernel) (pa_cons (pe_revL (pv 0)) pa_nil)))), ?_⟩
    walk_at "go"
    refine fun p np => ?_
    walk_at "g"
    refine ⟨p, _, rfl, .inl ⟨SqL.of upd_same, fun p2 np2 => ?_⟩⟩
    exact q _ _ ((Ch.new np).trans (Ch.new np2)) upd_same
theorem reps_rev {H : Hp} : ∀ {vs : List V} {ts : List T}, Reps K H vs ts → Reps K H vs.reverse ts.reverse
  | _, _, .nil => .nil
  | _, _, .cons h r => by
    rw [List.reverse_cons, List.reverse_cons]
    exact (reps_rev r).append (.cons h .nil)
def spTaken (K : PySem.W.Frag) : Sp := fun xs H Q _ => ∃ z a vs as S S' t, xs = [.str z, .ref a] ∧ H a = some (.lst vs.reverse) ∧ PR K H S vs as ∧ a ∉ as ∧ Tk (plc z) S t S' ∧ totP S ≤ 200000 ∧
  ∀ H' v us as', Ch K [a] H H' → H' a = some (.lst us.reverse) → PR K H' S' us as' → as'.Sublist as → Rep K H' v t → Q v H'
theorem plc_body (z : Str) : decide (V.str z = V.str "body") = (match plc z with | .body => true | _ => false) := by
  unfold plc
  by_cases h : z = "body"
  · subst h
    rw [if_pos rfl]
    rfl
  · rw [if_neg h, decide_eq_false (fun e => h (by cases e; rfl))]
    split <;> rename_i e
    · split at e <;> cases e
    · rfl
theorem plc_parts (z : Str) (hb : z ≠ "body") : decide (V.str z = V.str "parts") = (match plc z with | .parts => true | _ => false) := by
  unfold plc
  rw [if_neg hb]
  by_cases h : z = "parts"
  · subst h
    rw [if_pos rfl]
    simp
  · rw [if_neg h, decide_eq_false (fun e => h (by cases e; rfl))]
theorem last_rev (v : V) (vs : List V) : (v :: vs).reverse[(v :: vs).reverse.length - 1]? = some v := by simp
theorem drop_rev (v : V) (vs : List V) : (v :: vs).reverse.dropLast = vs.reverse := by simp
theorem PR.split {H : Hp} {S : List Pi} : ∀ {ts : List T} {vs : List V} {as : List Addr}, PR K H (ts.map Pi.dat ++ S) vs as → ∃ us ws, vs = us ++ ws ∧ Reps K H us ts ∧ PR K H S ws as
  | [], vs, as, h => ⟨[], vs, rfl, .nil, h⟩
  | t :: r, _, _, .dat h k => by
    obtain ⟨us, ws, rfl, a, b⟩ := PR.split (ts := r) k
    exact ⟨_ :: us, ws, rfl, .cons h a, b⟩
theorem fn_taken (C : Cn w K mg base) : Fn P w K mg base CX0 2 "taken" ["place", "pile"] (spTaken K) := C.f_taken fun fd F => by
  have F_in_turn : Fn P w K mg base CX0 1 "in_turn" ["backwards"] (spInTurn K) := fn_in_turn C
  refine F.ok (CX := CX0) sc_taken (fun vs H Q E h => ?_) (fun cdv A outer s H vs Q E hr h => ?_)
  · obtain ⟨z, a, vs, as, S, S', t, rfl, _⟩ := h
    rfl
  · obtain ⟨z, a, vs, as, S, S', t, rfl, ha, pr, na, tk, sz, q⟩ := h
    refine ⟨_, PSs.nox (pss_cons (ps_if (pt_cmpR op_eq (pv 0) pe_str (nomark _)) (pss_one (ps_ret (pe_fn F_in_turn (rmm hr) (by rfl) pass0 (pa_cons (pe_bm0 PySem.F.plainAttrs_list PySem.F.slot_list_pop PySem.F.type_list_pop mt_pop (pv 1)) pa_nil)))) pss_nil)
      (pss_cons (ps_if (pt_cmpR op_eq (pv 0) pe_str (nomark _)) (pss_cons (ps_set (i := 2) sc_taken.nd rfl (Or.inl rfl) (pe_bm0 PySem.F.plainAttrs_list PySem.F.slot_list_pop PySem.F.type_list_pop mt_pop (pv 1)))
      (pss_one (ps_ret (pe_callTy call_tuple_of (by rfl) (C.m_tuple) (by decide +kernel) (pa_cons (pe_lc (own := [("_", 3)]) (g := gName 3) (tt := tYes) rfl sc_taken.nd (pi_range1 (by rfl) (C.m_range) (pa_cons (pv 2) pa_nil)) (blkOk_by (own := [("_", 3)]) (N := ["place", "pile", "many", "_"]) (sc := defScope s_taken) (by decide +kernel)) (fun _ _ _ _ _ => pg_name (i := 3) sc_taken.nd rfl (Or.inl rfl)) (fun _ _ _ _ _ => pts_nil) (fun _ _ _ _ _ => (pe_bm0K K PySem.F.plainAttrs_list PySem.F.slot_list_pop PySem.F.type_list_pop mt_pop (pv 1)))) pa_nil))))) pss_nil)
      (pss_one (ps_ret (pe_bm0 PySem.F.plainAttrs_list PySem.F.slot_list_pop PySem.F.type_list_pop mt_pop (pv 1)))))), ?_⟩
    walk_at "go"
    rw [plc_body]
    have zs := len_tot S
    generalize hp : plc z = pz at tk ⊢
    cases tk with
    | @body l S2 =>
      cases pr with
      | @bod b us l' S3 vs2 as2 e h r =>
      walk_at "yes"
      refine ⟨a, _, _, rfl, rfl, ha, last_rev _ _, ?_⟩
      rw [drop_rev]
      have nab : b ≠ a := fun e => na (by rw [e]; simp)
      have c1 : Ch K [a] H (upd H a (.lst vs2.reverse)) := Ch.wrL ha (by simp)
      have e1 : (upd H a (.lst vs2.reverse)) a = some (.lst vs2.reverse) := upd_same
      generalize upd H a (.lst vs2.reverse) = H1 at c1 e1 ⊢
      walk_at "g"
      refine ⟨b, us, rfl, SqL.of (c1.up _ _ e (by simpa using nab)), fun H2 p c2 e2 => ?_⟩
      have c12 := c1.trans (c2.mono (S' := [a]) (by simp))
      refine q H2 _ vs2 as2 c12 (c2.up _ _ e1 (by simp)) (r.ch c12 fun b hb z => na (by simp at z; rw [← z]; simp [hb])) (List.sublist_cons_self ..) ?_
      exact .tup (SqT.of e2) (reps_rev (h.kt c12.kt))
    | @parts ts S2 =>
      have hzb : z ≠ "body" := fun e => by rw [e] at hp; cases hp
      cases pr with
      | @dat v t' S3 vs1 as h r =>
      obtain rfl := h.intI
      walk_at "no"
      rw [plc_parts z hzb, hp]
      walk_at "yes"
      refine ⟨a, _, _, rfl, rfl, ha, last_rev _ _, ?_⟩
      rw [drop_rev]
      have c1 : Ch K [a] H (upd H a (.lst vs1.reverse)) := Ch.wrL ha (by simp)
      have e1 : (upd H a (.lst vs1.reverse)) a = some (.lst vs1.reverse) := upd_same
      generalize upd H a (.lst vs1.reverse) = H1 at c1 e1 ⊢
      have r1 := r.ch c1 fun b hb z => na (by simp at z; rw [← z]; exact hb)
      obtain ⟨us, ws, rfl, ru, rw_⟩ := r1.split
      have lu : us.length = ts.length := ru.len
      simp only [totP, tot_app, tot_dat] at sz
      walk_at "g"
      refine ⟨by omega, by omega, fun D nD => ?_⟩
      have hDa : D ≠ a := fun e => by rw [e, e1] at nD; cases nD
      rw [Int.toNat_natCast]
      refine lcR1 (fun i H' => Ch K [a] H1 H' ∧ H' a = some (.lst ((us ++ ws).drop i).reverse) ∧ H' D = some (.lst (us.take i))) ⟨Ch.new nD, by rw [upd_ne (Ne.symm hDa)]; exact e1, upd_same⟩ ?_ ?_
      · rintro i H2 hi ⟨c2, e2, d2⟩
        have hi2 : i < us.length := by omega
        have ed : (us ++ ws).drop i = us[i] :: (us ++ ws).drop (i + 1) := by
          rw [List.drop_eq_getElem_cons (by rw [List.length_append]; omega), List.getElem_append_left]
        rw [ed] at e2
        walk_at "g"
        refine ⟨a, _, _, rfl, rfl, e2, last_rev _ _, ?_⟩
        rw [drop_rev]
        have d3 : (upd H2 a (.lst ((us ++ ws).drop (i + 1)).reverse)) D = some (.lst (us.take i)) := by rw [upd_ne hDa]; exact d2
        refine ⟨_, d3, by rw [sizeLine_eq, List.length_take]; omega, ?_⟩
        have c3 : Ch K [a] H1 (upd H2 a (.lst ((us ++ ws).drop (i + 1)).reverse)) := c2.trans (Ch.wrL e2 (by simp))
        refine ⟨?_, by rw [upd_ne (Ne.symm hDa)]; exact upd_same, ?_⟩
        · have c4 : Ch K [D] (upd H2 a (.lst ((us ++ ws).drop (i + 1)).reverse)) (upd (upd H2 a (.lst ((us ++ ws).drop (i + 1)).reverse)) D (.lst (us.take i ++ [us[i]]))) := Ch.wrL d3 (by simp)
          refine ⟨fun b o hb n => ?_, (c3.trans (S := [a]) (Ch.refl)).kt.trans c4.kt⟩
          have hbD := ne_of_none hb nD
          rw [upd_ne hbD]
          exact c3.up b o hb n
        · rw [upd_same, List.take_add_one, List.getElem?_eq_getElem hi2]
          rfl
      · rintro H2 ⟨c2, e2, d2⟩
        rw [← lu, List.take_length] at d2
        rw [← lu, List.drop_left] at e2
        walk_at "g"
        refine ⟨D, us, rfl, .inl ⟨SqL.of d2, fun p np => ?_⟩⟩
        have c3 : Ch K [a] H2 (upd H2 p (.tup us)) := Ch.new np
        have c13 := (c1.trans c2).trans c3
        refine q _ _ ws as c13 ((Ch.new (K := K) (S := []) np).up _ _ e2 (by simp)) (rw_.ch (c2.trans c3) fun b hb z => na (by simp at z; rw [← z]; exact hb)) (List.Sublist.refl _) ?_
        exact .tup (SqT.of upd_same) (ru.kt (c2.trans c3).kt)
    | @one t S2 =>
      have hzb : z ≠ "body" := fun e => by rw [e] at hp; cases hp
      cases pr with
      | @dat v t' S3 vs1 as h r =>
      walk_at "no"
      rw [plc_parts z hzb, hp]
      walk_at "no"
      refine ⟨a, _, _, rfl, rfl, ha, last_rev _ _, ?_⟩
      rw [drop_rev]
      have c1 : Ch K [a] H (upd H a (.lst vs1.reverse)) := Ch.wrL ha (by simp)
      have e1 : (upd H a (.lst vs1.reverse)) a = some (.lst vs1.reverse) := upd_same
      exact q _ _ vs1 as c1 e1 (r.ch c1 fun b hb z => na (by simp at z; rw [← z]; exact hb)) (List.Sublist.refl _) (h.kt c1.kt)
end
end K3
end

section
set_option maxRecDepth 100000
set_option maxHeartbeats 1000000
open Bq L2
/-- one step of a reading; what is left are side goals and places to think -/
local macro_rules | `(tactic| walk_at "g1") => `(tactic| first
  | with_reducible refine' g_seq ?_ | with_reducible refine' g_asg ?_ | with_reducible refine' g_drop ?_ | with_reducible refine' g_ret ?_ | with_reducible refine' g_ifS ?_ | with_reducible refine' g_asgG ?_
  | ((with_reducible refine' g_var ?hv ?_); (case hv => rfl))
  | with_reducible refine' g_c ?_ | with_reducible refine' g_op ?_ | with_reducible refine' g_un ?_ | with_reducible refine' g_I0 ?_ | with_reducible refine' g_U ?_
  | with_reducible refine' g_test ?_ | with_reducible refine' g_tB ?_ | with_reducible refine Exists.intro _ (And.intro rfl ?_) 
  | ((with_reducible refine' g_andP ?ha ?hb ?_); (case ha => intro R q; walk_at "g"; exact q); (case hb => intro R q; walk_at "g"; exact q))
  | ((with_reducible refine' g_orP ?ha ?hb ?_); (case ha => intro R q; walk_at "g"; exact q); (case hb => intro R q; walk_at "g"; exact q))
  | with_reducible refine' g_and ?_ | with_reducible refine' g_or ?_ | with_reducible refine' g_not ?_
  | with_reducible refine' g_andV ?_ | with_reducible refine' g_orV ?_ | with_reducible refine' g_notV ?_ | with_reducible refine' g_if ?_ | with_reducible refine' g_nil ?_ | with_reducible refine' g_cons ?_
  | with_reducible refine' g_tup ?_ | with_reducible refine' g_lst ?_ | with_reducible refine' g_CB ?_ | with_reducible refine' g_Fn ?_ | with_reducible refine' g_next ?_ | with_reducible refine' g_retN ?_
  | with_reducible refine' g_name ?_ | with_reducible refine' g_sub ?_
  | ((with_reducible refine' g_ixL ?hs ?he ?_); (case hs => walk_at "lk"); (case he => walk_at "at"))
  | ((with_reducible refine' g_ixT ?hs ?he ?_); (case hs => walk_at "lk"); (case he => walk_at "at"))
  | ((with_reducible refine' g_setL ?hs ?he ?_); (case hs => walk_at "hp"); (case he => rfl))
  | ((with_reducible refine' g_app ?hs ?hz ?_); (case hs => walk_at "hp"); (case hz => walk_at "sz"))
  | ((with_reducible refine' ⟨_, _, rfl, Or.inl ?hs, ?_⟩); (case hs => walk_at "lk"))
  | ((with_reducible refine' ⟨_, _, rfl, Or.inr ?hs, ?_⟩); (case hs => walk_at "lk"))
  | with_reducible refine' g_BM ?_ | with_reducible refine' g_BM0 ?_ | ((with_reducible refine' g_tyL ?hs ?_); (case hs => walk_at "lk"))
  | with_reducible refine' g_sl ?_ | with_reducible refine' g_noPart ?_ | with_reducible refine' g_part ?_
  | ((with_reducible refine' g_inT ?hs ?fx ?fs ?_); (case hs => walk_at "lk"); (case fx => rfl); (case fs => rfl))
  | with_reducible refine' g_pair ?_ | with_reducible refine' g_pair0 ?_ | with_reducible refine' g_disp ?_
  | with_reducible refine' g_for ?_ | with_reducible refine' g_tupC ?_ | with_reducible refine' g_lstC ?_ | ((with_reducible refine' g_lens ?_)) | with_reducible refine' g_dg ?_ | with_reducible refine' g_lc ?_ | with_reducible refine' g_rng1 ?_ | with_reducible refine' g_ilist ?_ | with_reducible refine' g_itup ?_
  | ((with_reducible refine' ⟨_, _, rfl, ?hd, ?_⟩); (case hd => walk_at "dg"))
  | ((with_reducible refine' g_eqNil ?hs ?hz ?_); (case hs => walk_at "lk"); (case hz => walk_at "lk"))
  | ((with_reducible refine' g_neNil ?hs ?hz ?_); (case hs => walk_at "lk"); (case hz => walk_at "lk"))
  | with_reducible refine Or.inl ⟨_, rfl, ?_⟩
  | with_reducible refine Or.inr ⟨_, rfl, ?_⟩
  | ((with_reducible refine' g_eq ?hs ?_); (case hs => rfl))
  | ((with_reducible refine' g_ne ?hs ?_); (case hs => rfl))
  | ((with_reducible refine' g_I ?hc ?_); (case hc => walk_at "ar")))
/-- arithmetic's side conditions -/
local macro_rules | `(tactic| walk_at "ar") => `(tactic| (first
  | (show (0 : Int) < _; first | omega | decide) | (show (0 : Int) < _ ∧ _; constructor <;> omega) | (show ¬ (_ : Int) = _; omega) | (show (_ : Int) ≠ _ ∧ _; constructor <;> omega)
  | (show (-(2 ^ 64) < _ ∧ _) ∨ _; (first | (left; constructor <;> omega) | (right; constructor <;> omega))) | (show (0 : Int) ≤ _ ∧ _ ∧ _; refine ⟨by omega, by omega, by decide⟩)))
/-- what stands at an index -/
local macro_rules | `(tactic| walk_at "at") => `(tactic| first | rfl | assumption)
/-- what stands at an address -/
local macro_rules | `(tactic| walk_at "hp") => `(tactic| first | assumption | exact upd_same | ((refine' Eq.trans (upd_ne ?hn) ?hm); (case hm => walk_at "hp"); (case hn => walk_at "ne")))
/-- two places are two -/
local macro_rules | `(tactic| walk_at "ne") => `(tactic| first
  | assumption | exact Ne.symm (by assumption)
  | ((refine' ne_of_none ?ha ?hb); (case hb => assumption); (case ha => walk_at "hp")) | ((refine' Ne.symm (ne_of_none ?ha ?hb)); (case hb => assumption); (case ha => walk_at "hp")))
/-- what a dict tells -/
local macro_rules | `(tactic| walk_at "dg") => `(tactic| first | assumption)
/-- a length -/
local macro_rules | `(tactic| walk_at "sz") => `(tactic| first | (show _ ≤ sizeLine; decide) | (show _ < sizeLine; decide) | assumption | exact szlt (by simp) | exact szle (by simp))
/-- a list or tuple that stands -/
local macro_rules | `(tactic| walk_at "lk") => `(tactic| first | assumption | exact SqL.of (by assumption) | exact SqT.of (by assumption) | exact SqL.of upd_same | exact SqT.of upd_same | (refine' FzL.sq ?hm; (case hm => walk_at "fz")))
/-- a list that nobody writes -/
local macro_rules | `(tactic| walk_at "fz") => `(tactic| first | assumption | ((refine' FzL.uw ?hm ?hx); (case hx => walk_at "hp"); (case hm => walk_at "fz")) | ((refine' FzL.nw ?hm ?hx); (case hx => assumption); (case hm => walk_at "fz")))
/-- as far as it goes by itself -/
local macro_rules | `(tactic| walk_at "g") => `(tactic| repeat walk_at "g1")
/-- the body's reading, its places in short -/
local macro_rules | `(tactic| walk_at "go") => `(tactic| ((try dsimp only [cxOf, Cx.nox, Cx.wish]); walk_at "g"))
namespace K3
open PySem PySem.Spec PyProof.Rows L2 Bq
section
variable {P : Program} {w : World} {K : PySem.W.Frag} {mg : Str → Option Value} {base : Heap}
/-- further steps: dicts written, tuples taken apart -/
local macro_rules | `(tactic| walk_at "g1") => `(tactic| first
  | with_reducible refine' g_sdput ?_
  | ((with_reducible refine' g_gtup ?hs ?hl ?_); (case hs => walk_at "lk"); (case hl => rfl))
  | with_reducible refine' g_gcons ?_
  | with_reducible refine' g_gnil ?_
  | with_reducible refine' And.intro (Eq.refl V.non) ?_
  | with_reducible refine' g_isN ?_
  | ((with_reducible refine' g_chainR ?ha ?hb ?hc ?_); (case ha => intro R q; walk_at "g"; exact q); (case hb => intro R q; walk_at "g"; exact q); (case hc => intro R q; walk_at "g"; exact q))
  | with_reducible refine' g_notN ?_)
/-- what the law's dict tells -/
local macro_rules | `(tactic| walk_at "dg") => `(tactic| first
  | assumption
  | exact LH.gfuns (by assumption)
  | exact LH.gsaid (by assumption)
  | exact LH.gcells (by assumption)
  | exact LH.gfuel (by assumption)
  | exact LH.gend (by assumption)
  | exact LH.gcalls (by assumption)
  | exact LH.gnames (by assumption)
  | exact LH.gwaits (by assumption)
  | exact LH.gworth (by assumption)
  | exact LH.glook (by assumption))
/-- a test that fails, that holds, by itself -/
local macro_rules | `(tactic| walk_at "no") => `(tactic| ((refine tkF rfl ?_); walk_at "g"))
local macro_rules | `(tactic| walk_at "yes") => `(tactic| ((refine tkT rfl ?_); walk_at "g"))
local macro_rules | `(tactic| walk_at "g1") => `(tactic| first
  | with_reducible refine' g_catS ?_
  | with_reducible refine' g_mulS ?_
  | with_reducible refine' g_rev ?_)
/-- texts: methods, signs, slices -/
local macro_rules | `(tactic| walk_at "g1") => `(tactic| first
  | with_reducible refine' g_tm0 ?_
  | with_reducible refine' g_tm1 ?_
  | with_reducible refine' g_isdig ?_
  | with_reducible refine' g_isasc ?_
  | with_reducible refine' g_starts ?_
  | with_reducible refine' g_str0 ?_
  | with_reducible refine' g_revL ?_
  | with_reducible refine' g_nilTrue ?_
  | with_reducible refine' g_chainT ?_)
/-! ### a word's thing made of what lies on the pile -/
inductive Bs : Str → List Pi → List Pi → Prop where
  | fn {S ts m S'} (h : Tks [.one, .one, .body] S ts (.bod m :: S')) : Bs "fun" S (.bod (m ++ [.tup ts]) :: S')
  | deed {S ts m S'} (d : Dd) (h : Tks ((plT (.d d)).map plc) S ts (.bod m :: S')) : Bs (wdT (.d d)) S (.bod (m ++ [.tup (.str (wdT (.d d)) :: ts)]) :: S')
  | part {S ts S'} (p : Pt) (o : isOp p) (h : Tks ((plT (.p p)).map plc) S ts S') : Bs (wdT (.p p)) S (.dat (.tup (.str (wdT (.p p)) :: ts)) :: S')
/-- what lies on the pile at a -/
structure Pil (K : PySem.W.Frag) (H : Hp) (a : Addr) (S : List Pi) (vs : List V) (as : List Addr) : Prop where
  at_ : H a = some (.lst vs.reverse)
  pr : PR K H S vs as
  na : a ∉ as
  nd : as.Nodup
def spBuild (K : PySem.W.Frag) : Sp := fun xs H Q _ => ∃ z a vs as S S', xs = [.str z, .ref a] ∧ Pil K H a S vs as ∧ Bs z S S' ∧ totP S ≤ 200000 ∧
  ∀ H' us as', Ch K (a :: as) H H' → Pil K H' a S' us as' → as'.Sublist as → Q .non H'
theorem tks_at {ps : List Plc} {S S' : List Pi} {ts : List T} {i : Nat} {p : Plc} (h : Tks (ps.drop i) S (ts.drop i) S') (e : ps[i]? = some p) : ∃ t S2, Tk p S t S2 ∧ Tks (ps.drop (i + 1)) S2 (ts.drop (i + 1)) S' ∧ ts[i]? = some t := by
  have e1 : ps.drop i = p :: ps.drop (i + 1) := by
    rw [List.drop_eq_getElem_cons (List.getElem?_eq_some_iff.mp e).1]
    congr 1
    exact (List.getElem?_eq_some_iff.mp e).2
  rw [e1] at h
  generalize e2 : ts.drop i = us at h
  cases h with
  | @cons _ _ _ S2 _ t r h k =>
    have e3 : ts[i]? = some t := by
      have := congrArg List.head? e2
      rwa [List.head?_drop] at this
    have e4 : ts.drop (i + 1) = r := by
      have := congrArg List.tail e2
      rwa [List.tail_drop] at this
    exact ⟨t, S2, h, by rw [e4]; exact k, e3⟩
theorem Tks.len {ps : List Plc} {S S' : List Pi} {ts : List T} (h : Tks ps S ts S') : ts.length = ps.length := by
  induction h with
  | nil => rfl
  | cons h r ih => exact congrArg Nat.succ ih
/-- where the taking stands after i places -/
def TkSt (K : PySem.W.Frag) (H0 : Hp) (a D : Addr) (as : List Addr) (zs : List Str) (S' : List Pi) (ts : List T) (i : Nat) (H' : Hp) : Prop :=
  Ch K [a] H0 H' ∧ ∃ us as' S1 ws, Tks ((zs.map plc).drop i) S1 (ts.drop i) S' ∧ totP S1 ≤ 200000 ∧ Pil K H' a S1 us as' ∧ as'.Sublist as ∧ H' D = some (.lst ws) ∧ Reps K H' ws (ts.take i)
theorem tkst_step {H0 H : Hp} {a D : Addr} {as : List Addr} {zs : List Str} {S' : List Pi} {ts : List T} {i : Nat} {z : Str} {E : XK} {R : VK} (h : TkSt K H0 a D as zs S' ts i H) (nD : H0 D = none) (hDa : D ≠ a) (hs : ∀ b ∈ as, H0 b ≠ none) (zl : zs.length ≤ 1000) (hz : zs[i]? = some z)
    (k : ∀ (H4 : Hp) (y : V) acc, H4 D = some (.lst acc) → acc.length < sizeLine → TkSt K H0 a D as zs S' ts (i + 1) (upd H4 D (.lst (acc ++ [y]))) → R y H4) : spTaken K [.str z, .ref a] H R E := by
  obtain ⟨c0, us, as', S1, ws, t1, sz, pl, sub, eD, rw_⟩ := h
  have hi : i < zs.length := (List.getElem?_eq_some_iff.mp hz).1
  obtain ⟨t, S2, a2, a3, a4⟩ := tks_at t1 (p := plc z) (by rw [List.getElem?_map, hz]; rfl)
  have tt := a2.tot
  refine ⟨z, a, us, as', S1, S2, t, rfl, pl.at_, pl.pr, pl.na, a2, by omega, fun H4 v vs2 as2 c4 e4 p4 s4 r4 => ?_⟩
  have eD4 : H4 D = some (.lst ws) := c4.up _ _ eD (by simpa using hDa)
  have wl : ws.length ≤ i := by rw [rw_.len, List.length_take]; omega
  refine k H4 v ws eD4 (by rw [sizeLine_eq]; omega) ?_
  have c5 : Ch K [D] H4 (upd H4 D (.lst (ws ++ [v]))) := Ch.wrL eD4 (by simp)
  have nDas : D ∉ as2 := fun h => hs D ((s4.trans sub).subset h) nD
  refine ⟨?_, vs2, as2, S2, ws ++ [v], a3, by omega, ⟨?_, p4.ch c5 fun b hb z => nDas (by simp at z; rw [← z]; exact hb), fun h => pl.na (s4.subset h), pl.nd.sublist s4⟩, s4.trans sub, upd_same, ?_⟩
  · refine ⟨fun b o hb n => ?_, (c0.trans c4).kt.trans c5.kt⟩
    rw [upd_ne (ne_of_none hb nD)]
    exact (c0.trans c4).up b o hb n
  · rw [upd_ne (Ne.symm hDa)]
    exact e4
  · rw [take_snoc a4]
    exact reps_snoc ((rw_.kt c4.kt).kt c5.kt) (r4.kt c5.kt)
theorem last_at (v : V) (vs : List V) : atI (v :: vs).reverse (-1) = some v := by
  have e : ixN (v :: vs).reverse.length (-1) = some vs.length := by
    unfold ixN
    simp only [List.length_reverse, List.length_cons]
    split
    · omega
    · split
      · congr 1
        omega
      · omega
  unfold atI
  rw [e]
  simp
theorem tkst_end {H0 H : Hp} {a D : Addr} {as : List Addr} {zs : List Str} {S' : List Pi} {ts : List T} (h : TkSt K H0 a D as zs S' ts zs.length H) (hl : ts.length = zs.length) :
    Ch K [a] H0 H ∧ ∃ us as' ws, Pil K H a S' us as' ∧ as'.Sublist as ∧ H D = some (.lst ws) ∧ Reps K H ws ts ∧ totP S' ≤ 200000 := by
  obtain ⟨c, us, as', S1, ws, t1, sz, pl, sub, eD, rw_⟩ := h
  have e1 : (zs.map plc).drop zs.length = [] := by rw [← List.length_map (f := plc), List.drop_length]
  have e2 : ts.drop zs.length = [] := by rw [← hl, List.drop_length]
  rw [e1, e2] at t1
  cases t1
  rw [← hl, List.take_length] at rw_
  exact ⟨c, us, as', ws, pl, sub, eD, rw_, sz⟩
theorem pil_app {H : Hp} {a : Addr} {m : List T} {S : List Pi} {us : List V} {as : List Addr} {v : V} {t : T} (pl : Pil K H a (.bod m :: S) us as) (hv : Rep K H v t) :
    ∃ b us2 as2 ws, us = .ref b :: us2 ∧ as = b :: as2 ∧ H b = some (.lst ws) ∧ ws.length = m.length ∧ Ch K [b] H (upd H b (.lst (ws ++ [v]))) ∧ Pil K (upd H b (.lst (ws ++ [v]))) a (.bod (m ++ [t]) :: S) us as := by
  obtain ⟨e, pr, na, nd⟩ := pl
  cases pr with
  | @bod b ws l S3 vs2 as2 eb h r =>
  have c : Ch K [b] H (upd H b (.lst (ws ++ [v]))) := Ch.wrL eb (by simp)
  have nb : a ≠ b := fun z => na (by rw [z]; simp)
  rw [List.nodup_cons] at nd
  refine ⟨b, vs2, as2, ws, rfl, rfl, eb, h.len, c, by rw [upd_ne nb]; exact e, .bod upd_same (reps_snoc (h.kt c.kt) (hv.kt c.kt)) (r.ch c fun x hx z => nd.1 (by simp at z; rw [← z]; exact hx)), na, List.nodup_cons.mpr nd⟩
theorem Pil.ch {H H' : Hp} {a : Addr} {S : List Pi} {us : List V} {as : List Addr} (pl : Pil K H a S us as) (c : Ch K [] H H') : Pil K H' a S us as := ⟨c.up _ _ pl.at_ (by simp), pl.pr.ch c (by simp), pl.na, pl.nd⟩
theorem fn_build (C : Cn w K mg base) : Fn P w K mg base CX0 3 "build" ["word", "pile"] (spBuild K) := C.f_build fun fd F => by
  have F_taken : Fn P w K mg base CX0 2 "taken" ["place", "pile"] (spTaken K) := fn_taken C
  have F_places_behind : Fn P w K mg base CX0 1 "places_behind" ["word"] (spPlaces K) := fn_places C
  refine F.ok (CX := CX0) sc_build (fun vs H Q E h => ?_) (fun cdv A outer s H vs Q E hr h => ?_)
  · obtain ⟨z, a, vs, as, S, S', rfl, _⟩ := h
    rfl
  · obtain ⟨z, a, vs, as, S, S', rfl, pl, bs, sz, q⟩ := h
    refine ⟨_, PSs.nox (pss_cons (ps_if (pt_cmpR op_eq (pv 0) pe_str (nomark _)) (pss_cons (ps_set (i := 2) sc_build.nd rfl (Or.inl rfl) (pe_callTy call_tuple_of (by rfl) (C.m_tuple) (by decide +kernel) (pa_cons (pe_lc (own := [("place", 4)]) (g := gName 4) (tt := tYes) rfl sc_build.nd (pi_tup (pe_glob (v := .ref _) (by rfl) C.g_FUN_PLACES rfl)) (blkOk_by (own := [("place", 4)]) (N := ["word", "pile", "fun", "thing", "place"]) (sc := defScope s_build) (by decide +kernel)) (fun _ _ _ _ _ => pg_name (i := 4) sc_build.nd rfl (Or.inl rfl)) (fun _ _ _ _ _ => pts_nil) (fun _ _ _ _ _ => (pe_fn F_taken (rmm hr) (by rfl) pass0 (pa_cons (pv 4) (pa_cons (pv 1) pa_nil))))) pa_nil)))
      (pss_cons (ps_expr (pe_bm PySem.F.plainAttrs_list PySem.F.slot_list_append PySem.F.type_list_append mt_append (pe_ix ix_list (pv 1) (pe_un un_neg pe_int) (fun _ _ => rfl)) (pa_cons (pv 2) pa_nil)))
      (pss_one ps_retN))) pss_nil)
      (pss_cons (ps_set (i := 3) sc_build.nd rfl (Or.inl rfl) (pe_tupC (pa_cons (pv 0) (StX.pa_star (pe_lc (own := [("place", 4)]) (g := gName 4) (tt := tYes) rfl sc_build.nd (pi_tup (pe_fn F_places_behind (rmm hr) (by rfl) pass0 (pa_cons (pv 0) pa_nil))) (blkOk_by (own := [("place", 4)]) (N := ["word", "pile", "fun", "thing", "place"]) (sc := defScope s_build) (by decide +kernel)) (fun _ _ _ _ _ => pg_name (i := 4) sc_build.nd rfl (Or.inl rfl)) (fun _ _ _ _ _ => pts_nil) (fun _ _ _ _ _ => (pe_fn F_taken (rmm hr) (by rfl) pass0 (pa_cons (pv 4) (pa_cons (pv 1) pa_nil))))) pa_nil))))
      (pss_one (ps_if (pt_cmpR (op_in_mod C.k_DEEDS) (pv 0) (pe_glob (v := .ref _) (by rfl) C.g_DEEDS rfl) (by rfl)) (pss_one (ps_expr (pe_bm PySem.F.plainAttrs_list PySem.F.slot_list_append PySem.F.type_list_append mt_append (pe_ix ix_list (pv 1) (pe_un un_neg pe_int) (fun _ _ => rfl)) (pa_cons (pv 3) pa_nil)))) (pss_one (ps_expr (pe_bm PySem.F.plainAttrs_list PySem.F.slot_list_append PySem.F.type_list_append mt_append (pv 1) (pa_cons (pv 3) pa_nil)))))))), ?_⟩
    have hs := pl.pr.some
    have haN : H a ≠ none := by rw [pl.at_]; simp
    walk_at "go"
    cases bs with
    | @fn _ ts m S2 tk =>
      walk_at "yes"
      refine ⟨⟨_, C.t_FUN_PLACES H⟩, fun D nD => ?_⟩
      have hDa : D ≠ a := fun e => haN (by rw [← e]; exact nD)
      refine lcT1 (xs := [V.str "n", V.str "n", V.str "body"]) (fun i H' => TkSt K H a D as ["n", "n", "body"] (.bod m :: S2) ts i H') ⟨Ch.new nD, vs, as, S, [], tk, sz, ⟨by rw [upd_ne (Ne.symm hDa)]; exact pl.at_, pl.pr.ch (Ch.new (S := []) nD) (by simp), pl.na, pl.nd⟩, List.Sublist.refl _, upd_same, .nil⟩ (fun i H' _ p => C.t_FUN_PLACES H') ?_ ?_
      · rintro i x H1 hx st
        obtain ⟨z, hz, rfl⟩ : ∃ z, (["n", "n", "body"] : List Str)[i]? = some z ∧ x = V.str z := by
          match i with
          | 0 => cases hx; exact ⟨_, rfl, rfl⟩
          | 1 => cases hx; exact ⟨_, rfl, rfl⟩
          | 2 => cases hx; exact ⟨_, rfl, rfl⟩
          | n + 3 => simp at hx
        walk_at "g"
        exact tkst_step st nD hDa hs (by simp) hz fun H4 y acc e1 e2 e3 => ⟨acc, e1, e2, e3⟩
      · intro H1 st
        obtain ⟨c1, us, as1, ws, pl1, sub1, eD1, r1, sz1⟩ := tkst_end (zs := ["n", "n", "body"]) st (by rw [tk.len]; rfl)
        refine ⟨_, _, rfl, .inl ⟨SqL.of eD1, fun p np => ?_⟩⟩
        have c2 : Ch K [] H1 (upd H1 p (.tup ws)) := Ch.new np
        have e2 : (upd H1 p (.tup ws)) p = some (.tup ws) := upd_same
        generalize upd H1 p (.tup ws) = H2 at c2 e2 ⊢
        have pl2 := pl1.ch c2
        have hv : Rep K H2 (.ref p) (.tup ts) := .tup (SqT.of e2) (r1.kt c2.kt)
        obtain ⟨b, us2, as2, bs, rfl, rfl, eb, lb, c3, pl3⟩ := pil_app pl2 hv
        have epa := pl2.at_
        simp only [totP] at sz1
        have hbz : bs.length < sizeLine := by rw [sizeLine_eq]; omega
        walk_at "g"
        refine g_ixL (SqL.of epa) (last_at _ _) ?_
        walk_at "g"
        exact q _ _ _ (((c1.mono (by simp)).trans (c2.mono (by simp))).trans (c3.mono fun x hx => by simp at hx; rw [hx]; exact List.mem_cons_of_mem _ (sub1.subset (by simp)))) pl3 sub1
    | @deed _ ts m S2 d tk =>
      refine tkF (wd_fun d) ?_
      walk_at "g"
      unfold StX.tStar
      walk_at "g"
      refine ⟨.d d, rfl, fun pa hpa => ?_⟩
      walk_at "g"
      refine ⟨⟨_, hpa _⟩, fun D nD => ?_⟩
      have hDa : D ≠ a := fun e => haN (by rw [← e]; exact nD)
      have pl3 := plT_len3 (.d d)
      refine lcT1 (xs := (plT (.d d)).map V.str) (fun i H' => TkSt K H a D as (plT (.d d)) (.bod m :: S2) ts i H') ⟨Ch.new nD, vs, as, S, [], tk, sz, ⟨by rw [upd_ne (Ne.symm hDa)]; exact pl.at_, pl.pr.ch (Ch.new (S := []) nD) (by simp), pl.na, pl.nd⟩, List.Sublist.refl _, upd_same, .nil⟩ (fun i H' _ p => hpa H') ?_ ?_
      · rintro i x H1 hx st
        rw [List.getElem?_map] at hx
        cases hz : (plT (.d d))[i]? with
        | none => rw [hz] at hx; cases hx
        | some z =>
          rw [hz] at hx
          cases hx
          walk_at "g"
          exact tkst_step st nD hDa hs (by omega) hz fun H4 y acc e1 e2 e3 => ⟨acc, e1, e2, e3⟩
      · intro H1 st
        rw [List.length_map] at st
        obtain ⟨c1, us, as1, ws, pl1, sub1, eD1, r1, sz1⟩ := tkst_end st (by rw [tk.len, List.length_map])
        refine ⟨_, _, rfl, .inr (SqL.of eD1), ?_⟩
        walk_at "g"
        have lws : ws.length ≤ 3 := by rw [r1.len, tk.len, List.length_map]; exact pl3
        refine ⟨by rw [sizeLine_eq, List.append_nil, List.length_cons]; omega, fun p H2 n2 e2 c2 => ?_⟩
        rw [List.append_nil] at e2
        have pl2 := pl1.ch c2
        have hv : Rep K H2 (.ref p) (.tup (.str (wdT (.d d)) :: ts)) := .tup (SqT.of e2) (.cons (.str _) (r1.kt c2.kt))
        obtain ⟨b, us2, as2, bs, rfl, rfl, eb, lb, c3, pl3⟩ := pil_app pl2 hv
        have epa := pl2.at_
        obtain ⟨dt, hdt, _⟩ := deeds_tab C (.d d)
        simp only [totP] at sz1
        have hbz : bs.length < sizeLine := by rw [sizeLine_eq]; omega
        walk_at "g"
        refine ⟨_, _, rfl, rfl, hdt, ?_⟩
        walk_at "g"
        walk_at "yes"
        refine g_ixL (SqL.of epa) (last_at _ _) ?_
        walk_at "g"
        exact q _ _ _ (((c1.mono (by simp)).trans (c2.mono (by simp))).trans (c3.mono fun x hx => by simp at hx; rw [hx]; exact List.mem_cons_of_mem _ (sub1.subset (by simp)))) pl3 sub1
    | @part _ ts S2 p0 o tk =>
      refine tkF (by cases p0 with | bin op x y => cases op <;> rfl | _ => rfl) ?_
      walk_at "g"
      unfold StX.tStar
      walk_at "g"
      refine ⟨.p p0, rfl, fun pa hpa => ?_⟩
      walk_at "g"
      refine ⟨⟨_, hpa _⟩, fun D nD => ?_⟩
      have hDa : D ≠ a := fun e => haN (by rw [← e]; exact nD)
      have pl3 := plT_len3 (.p p0)
      refine lcT1 (xs := (plT (.p p0)).map V.str) (fun i H' => TkSt K H a D as (plT (.p p0)) S2 ts i H') ⟨Ch.new nD, vs, as, S, [], tk, sz, ⟨by rw [upd_ne (Ne.symm hDa)]; exact pl.at_, pl.pr.ch (Ch.new (S := []) nD) (by simp), pl.na, pl.nd⟩, List.Sublist.refl _, upd_same, .nil⟩ (fun i H' _ p => hpa H') ?_ ?_
      · rintro i x H1 hx st
        rw [List.getElem?_map] at hx
        cases hz : (plT (.p p0))[i]? with
        | none => rw [hz] at hx; cases hx
        | some z =>
          rw [hz] at hx
          cases hx
          walk_at "g"
          exact tkst_step st nD hDa hs (by omega) hz fun H4 y acc e1 e2 e3 => ⟨acc, e1, e2, e3⟩
      · intro H1 st
        rw [List.length_map] at st
        obtain ⟨c1, us, as1, ws, pl1, sub1, eD1, r1, sz1⟩ := tkst_end st (by rw [tk.len, List.length_map])
        refine ⟨_, _, rfl, .inr (SqL.of eD1), ?_⟩
        walk_at "g"
        have lws : ws.length ≤ 3 := by rw [r1.len, tk.len, List.length_map]; exact pl3
        refine ⟨by rw [sizeLine_eq, List.append_nil, List.length_cons]; omega, fun p H2 n2 e2 c2 => ?_⟩
        rw [List.append_nil] at e2
        have pl2 := pl1.ch c2
        have hv : Rep K H2 (.ref p) (.tup (.str (wdT (.p p0)) :: ts)) := .tup (SqT.of e2) (.cons (.str _) (r1.kt c2.kt))
        have epa := pl2.at_
        have hdt := deeds_tab C (.p p0)
        have c3 : Ch K [a] H2 (upd H2 a (.lst (us.reverse ++ [.ref p]))) := Ch.wrL epa (by simp)
        have lus := len_tot S2
        have hbz : us.reverse.length < sizeLine := by rw [List.length_reverse, pl2.pr.len, sizeLine_eq]; omega
        have nna := pl2.na
        have plN : Pil K (upd H2 a (.lst (us.reverse ++ [.ref p]))) a (.dat (.tup (.str (wdT (.p p0)) :: ts)) :: S2) (.ref p :: us) as1 := ⟨by rw [upd_same, List.reverse_cons], .dat (hv.kt c3.kt) (pl2.pr.ch c3 fun x hx z => nna (by simp at z; rw [← z]; exact hx)), nna, pl2.nd⟩
        walk_at "g"
        refine ⟨_, _, rfl, rfl, hdt, ?_⟩
        walk_at "g"
        walk_at "no"
        exact q _ _ _ (((c1.mono (by simp)).trans (c2.mono (by simp))).trans (c3.mono (by simp))) plN sub1
end
end K3
end

section
set_option maxRecDepth 100000
set_option maxHeartbeats 1000000
open Bq L2
/-- one step of a reading; what is left are side goals and places to think -/
local macro_rules | `(tactic| walk_at "g1") => `(tactic| first
  | with_reducible refine' g_seq ?_ | with_reducible refine' g_asg ?_ | with_reducible refine' g_drop ?_ | with_reducible refine' g_ret ?_ | with_reducible refine' g_ifS ?_ | with_reducible refine' g_asgG ?_
  | ((with_reducible refine' g_var ?hv ?_); (case hv => rfl))
  | with_reducible refine' g_c ?_ | with_reducible refine' g_op ?_ | with_reducible refine' g_un ?_ | with_reducible refine' g_I0 ?_ | with_reducible refine' g_U ?_
  | with_reducible refine' g_test ?_ | with_reducible refine' g_tB ?_ | with_reducible refine Exists.intro _ (And.intro rfl ?_) 
  | ((with_reducible refine' g_andP ?ha ?hb ?_); (case ha => intro R q; walk_at "g"; exact q); (case hb => intro R q; walk_at "g"; exact q))
  | ((with_reducible refine' g_orP ?ha ?hb ?_); (case ha => intro R q; walk_at "g"; exact q); (case hb => intro R q; walk_at "g"; exact q))
  | with_reducible refine' g_and ?_ | with_reducible refine' g_or ?_ | with_reducible refine' g_not ?_
  | with_reducible refine' g_andV ?_ | with_reducible refine' g_orV ?_ | with_reducible refine' g_notV ?_ | with_reducible refine' g_if ?_ | with_reducible refine' g_nil ?_ | with_reducible refine' g_cons ?_
  | with_reducible refine' g_tup ?_ | with_reducible refine' g_lst ?_ | with_reducible refine' g_CB ?_ | with_reducible refine' g_Fn ?_ | with_reducible refine' g_next ?_ | with_reducible refine' g_retN ?_
  | with_reducible refine' g_name ?_ | with_reducible refine' g_sub ?_
  | ((with_reducible refine' g_ixL ?hs ?he ?_); (case hs => walk_at "lk"); (case he => walk_at "at"))
  | ((with_reducible refine' g_ixT ?hs ?he ?_); (case hs => walk_at "lk"); (case he => walk_at "at"))
  | ((with_reducible refine' g_setL ?hs ?he ?_); (case hs => walk_at "hp"); (case he => rfl))
  | ((with_reducible refine' g_app ?hs ?hz ?_); (case hs => walk_at "hp"); (case hz => walk_at "sz"))
  | ((with_reducible refine' ⟨_, _, rfl, Or.inl ?hs, ?_⟩); (case hs => walk_at "lk"))
  | ((with_reducible refine' ⟨_, _, rfl, Or.inr ?hs, ?_⟩); (case hs => walk_at "lk"))
  | with_reducible refine' g_BM ?_ | with_reducible refine' g_BM0 ?_ | ((with_reducible refine' g_tyL ?hs ?_); (case hs => walk_at "lk"))
  | with_reducible refine' g_sl ?_ | with_reducible refine' g_noPart ?_ | with_reducible refine' g_part ?_
  | ((with_reducible refine' g_inT ?hs ?fx ?fs ?_); (case hs => walk_at "lk"); (case fx => rfl); (case fs => rfl))
  | with_reducible refine' g_pair ?_ | with_reducible refine' g_pair0 ?_ | with_reducible refine' g_disp ?_
  | with_reducible refine' g_for ?_ | with_reducible refine' g_tupC ?_ | with_reducible refine' g_lstC ?_ | ((with_reducible refine' g_lens ?_)) | with_reducible refine' g_dg ?_ | with_reducible refine' g_lc ?_ | with_reducible refine' g_rng1 ?_ | with_reducible refine' g_ilist ?_ | with_reducible refine' g_itup ?_
  | ((with_reducible refine' ⟨_, _, rfl, ?hd, ?_⟩); (case hd => walk_at "dg"))
  | ((with_reducible refine' g_eqNil ?hs ?hz ?_); (case hs => walk_at "lk"); (case hz => walk_at "lk"))
  | ((with_reducible refine' g_neNil ?hs ?hz ?_); (case hs => walk_at "lk"); (case hz => walk_at "lk"))
  | with_reducible refine Or.inl ⟨_, rfl, ?_⟩
  | with_reducible refine Or.inr ⟨_, rfl, ?_⟩
  | ((with_reducible refine' g_eq ?hs ?_); (case hs => rfl))
  | ((with_reducible refine' g_ne ?hs ?_); (case hs => rfl))
  | ((with_reducible refine' g_I ?hc ?_); (case hc => walk_at "ar")))
/-- arithmetic's side conditions -/
local macro_rules | `(tactic| walk_at "ar") => `(tactic| (first
  | (show (0 : Int) < _; first | omega | decide) | (show (0 : Int) < _ ∧ _; constructor <;> omega) | (show ¬ (_ : Int) = _; omega) | (show (_ : Int) ≠ _ ∧ _; constructor <;> omega)
  | (show (-(2 ^ 64) < _ ∧ _) ∨ _; (first | (left; constructor <;> omega) | (right; constructor <;> omega))) | (show (0 : Int) ≤ _ ∧ _ ∧ _; refine ⟨by omega, by omega, by decide⟩)))
/-- what stands at an index -/
local macro_rules | `(tactic| walk_at "at") => `(tactic| first | rfl | assumption)
/-- what stands at an address -/
local macro_rules | `(tactic| walk_at "hp") => `(tactic| first | assumption | exact upd_same | ((refine' Eq.trans (upd_ne ?hn) ?hm); (case hm => walk_at "hp"); (case hn => walk_at "ne")))
/-- two places are two -/
local macro_rules | `(tactic| walk_at "ne") => `(tactic| first
  | assumption | exact Ne.symm (by assumption)
  | ((refine' ne_of_none ?ha ?hb); (case hb => assumption); (case ha => walk_at "hp")) | ((refine' Ne.symm (ne_of_none ?ha ?hb)); (case hb => assumption); (case ha => walk_at "hp")))
/-- what a dict tells -/
local macro_rules | `(tactic| walk_at "dg") => `(tactic| first | assumption)
/-- a length -/
local macro_rules | `(tactic| walk_at "sz") => `(tactic| first | (show _ ≤ sizeLine; decide) | (show _ < sizeLine; decide) | assumption | exact szlt (by simp) | exact szle (by simp))
/-- a list or tuple that stands -/
local macro_rules | `(tactic| walk_at "lk") => `(tactic| first | assumption | exact SqL.of (by assumption) | exact SqT.of (by assumption) | exact SqL.of upd_same | exact SqT.of upd_same | (refine' FzL.sq ?hm; (case hm => walk_at "fz")))
/-- a list that nobody writes -/
local macro_rules | `(tactic| walk_at "fz") => `(tactic| first | assumption | ((refine' FzL.uw ?hm ?hx); (case hx => walk_at "hp"); (case hm => walk_at "fz")) | ((refine' FzL.nw ?hm ?hx); (case hx => assumption); (case hm => walk_at "fz")))
/-- as far as it goes by itself -/
local macro_rules | `(tactic| walk_at "g") => `(tactic| repeat walk_at "g1")
/-- the body's reading, its places in short -/
local macro_rules | `(tactic| walk_at "go") => `(tactic| ((try dsimp only [cxOf, Cx.nox, Cx.wish]); walk_at "g"))
namespace K3
open PySem PySem.Spec PyProof.Rows L2 Bq
section
variable {P : Program} {w : World} {K : PySem.W.Frag} {mg : Str → Option Value} {base : Heap}
/-- further steps: dicts written, tuples taken apart -/
local macro_rules | `(tactic| walk_at "g1") => `(tactic| first
  | with_reducible refine' g_sdput ?_
  | ((with_reducible refine' g_gtup ?hs ?hl ?_); (case hs => walk_at "lk"); (case hl => rfl))
  | with_reducible refine' g_gcons ?_
  | with_reducible refine' g_gnil ?_
  | with_reducible refine' And.intro (Eq.refl V.non) ?_
  | with_reducible refine' g_isN ?_
  | ((with_reducible refine' g_chainR ?ha ?hb ?hc ?_); (case ha => intro R q; walk_at "g"; exact q); (case hb => intro R q; walk_at "g"; exact q); (case hc => intro R q; walk_at "g"; exact q))
  | with_reducible refine' g_notN ?_)
/-- what the law's dict tells -/
local macro_rules | `(tactic| walk_at "dg") => `(tactic| first
  | assumption
  | exact LH.gfuns (by assumption)
  | exact LH.gsaid (by assumption)
  | exact LH.gcells (by assumption)
  | exact LH.gfuel (by assumption)
  | exact LH.gend (by assumption)
  | exact LH.gcalls (by assumption)
  | exact LH.gnames (by assumption)
  | exact LH.gwaits (by assumption)
  | exact LH.gworth (by assumption)
  | exact LH.glook (by assumption))
/-- a test that fails, that holds, by itself -/
local macro_rules | `(tactic| walk_at "no") => `(tactic| ((refine tkF rfl ?_); walk_at "g"))
local macro_rules | `(tactic| walk_at "yes") => `(tactic| ((refine tkT rfl ?_); walk_at "g"))
local macro_rules | `(tactic| walk_at "g1") => `(tactic| first
  | with_reducible refine' g_catS ?_
  | with_reducible refine' g_mulS ?_
  | with_reducible refine' g_rev ?_)
/-- texts: methods, signs, slices -/
local macro_rules | `(tactic| walk_at "g1") => `(tactic| first
  | with_reducible refine' g_tm0 ?_
  | with_reducible refine' g_tm1 ?_
  | with_reducible refine' g_isdig ?_
  | with_reducible refine' g_isasc ?_
  | with_reducible refine' g_starts ?_
  | with_reducible refine' g_str0 ?_
  | with_reducible refine' g_revL ?_
  | with_reducible refine' g_nilTrue ?_
  | with_reducible refine' g_chainT ?_)
/-! ### x in a tuple of texts, x being data -/
def inT : T → List Str → Bool
  | .str z, zs => inV (.str z) (zs.map V.str)
  | _, _ => false
def rInW (K : PySem.W.Frag) : R2 := fun x y H Q => ∃ p zs t, y = .ref p ∧ SqT K H p (zs.map V.str) ∧ Rep K H x t ∧ Q (.bl (inT t zs)) H
theorem inV_int (i : Int) : ∀ zs : List Str, inV (.int i) (zs.map V.str) = false
  | [] => rfl
  | z :: r => by
    have := inV_int i r
    unfold inV at this ⊢
    rw [List.map_cons, List.any_cons, this]
    rfl
theorem op_inW {X : Cx} (hu : X.A.units + 1 < cLine) : OpR X (compareOp .In) (rInW X.K) := by
  intro pins s σ H x y v u Q I rx ry h
  obtain ⟨p, zs, t, rfl, hp, rp, k⟩ := h
  have fl : (zs.map V.str).all flatV = true := by
    rw [List.all_eq_true]
    intro a ha
    obtain ⟨z, _, rfl⟩ := List.mem_map.mp ha
    rfl
  cases rp with
  | int i =>
    refine op_in_seq pins s σ H _ _ v u Q I rx ry ⟨p, _, rfl, .inr hp, rfl, fl, ?_⟩
    show Q (.bl (inV (.int i) (zs.map V.str))) H
    rw [inV_int]
    exact k
  | str z => exact op_in_seq pins s σ H _ _ v u Q I rx ry ⟨p, _, rfl, .inr hp, rfl, fl, k⟩
  | @tup a vs ts hS r =>
    cases ry
    obtain rfl : v = Value.ref a := rx
    obtain ⟨its, rv, pl, hz⟩ := I.tuple hp
    obtain ⟨its2, rv2, pl2, hz2⟩ := I.tuple hS
    refine PySem.SeqAt.in_tupleAt (fun _ => false) pl (fun w hw => ?_) ⟨.bl _, H, I, rfl, ?_⟩
    · obtain ⟨j, hj, rfl⟩ := List.mem_iff_getElem.mp (show w ∈ its by simpa using hw)
      have hjl : j < zs.length := by have := rv.length; rw [List.length_map] at this; omega
      obtain ⟨u1, hu1, ru1⟩ := rv.get (i := j) (x := V.str zs[j]) (by rw [List.getElem?_map, List.getElem?_eq_getElem hjl]; rfl)
      obtain ⟨t1, rfl⟩ := ru1
      have e : its[j] = Value.str zs[j] t1 := by
        rw [List.getElem?_eq_getElem hj] at hu1
        exact Option.some.inj hu1
      rw [e]
      exact PySem.SeqAt.EqAt.str_tuple _ _ pl2 (by show X.A.units + 1 < cLine; exact hu)
    · have : (its.toArray.any fun _ => false) = false := by simp
      rw [this]
      exact k
theorem g_inW {p : Addr} {zs : List Str} {t : T} {v : V} {H : Hp} {Q : VK} (h : SqT K H p (zs.map V.str)) (r : Rep K H v t) (k : Q (.bl (inT t zs)) H) : rInW K v (.ref p) H Q := ⟨p, zs, t, rfl, h, r, k⟩
/-! ### items made to things, from the last one on -/
inductive It1 : T → List Pi → List Pi → Prop where
  | nd {S} : It1 (.str "end") S (.bod [] :: S)
  | els {S} : It1 (.str "else") S (.bod [] :: S)
  | word {z S S'} (h : Bs z S S') : It1 (.str z) S S'
  | int {i S} : It1 (.int i) S (.dat (.int i) :: S)
  | tup {ts S} : It1 (.tup ts) S (.dat (.tup ts) :: S)
inductive Bd : List T → List Pi → List Pi → Prop where
  | nil (S : List Pi) : Bd [] S S
  | cons {t r S S1 S2} (h : Bd r S S1) (i : It1 t S1 S2) : Bd (t :: r) S S2
theorem Bd.app : ∀ {a b : List T} {S S1 S2 : List Pi}, Bd b S S1 → Bd a S1 S2 → Bd (a ++ b) S S2
  | _, _, _, _, _, h, .nil _ => h
  | _, _, _, _, _, h, .cons k i => .cons (h.app k) i
theorem Bd.snoc : ∀ {a : List T} {t : T} {S S2 : List Pi}, Bd (a ++ [t]) S S2 → ∃ S1, It1 t S S1 ∧ Bd a S1 S2
  | [], t, S, S2, .cons (.nil _) i => ⟨S2, i, .nil _⟩
  | x :: r, t, S, S2, .cons h i => by
    obtain ⟨S1, a, b⟩ := Bd.snoc (a := r) h
    exact ⟨S1, a, .cons b i⟩
theorem wt_app (a b : List WT) : wt (a ++ b) = wt a ++ wt b := List.map_append ..
mutual
theorem bd_p : ∀ {p : Pt}, ∀ S, Bd (wt (xp p)) S (.dat (encP p) :: S)
  | .num n, S => .cons (.nil _) .tup
  | .name i, S => .cons (.nil _) .tup
  | .bin op a b, S => by
    have h : Bd (wt (xp a ++ xp b)) S (.dat (encP a) :: .dat (encP b) :: S) := by
      rw [wt_app]
      exact (bd_p (p := b) S).app (bd_p (p := a) (.dat (encP b) :: S))
    exact .cons h (.word (Bs.part (.bin op a b) trivial (.cons .one (.cons .one .nil))))
  | .nt a, S => .cons (bd_p (p := a) S) (.word (Bs.part (.nt a) trivial (.cons .one .nil)))
  | .get a, S => .cons (bd_p (p := a) S) (.word (Bs.part (.get a) trivial (.cons .one .nil)))
  | .call f ps, S => by
    have h := bd_ps (ps := ps) S
    have e : ((ps.length : Nat) : Int) = ((encPs ps).length : Nat) := by rw [encPs_len]
    exact .cons (.cons (.cons h .int) .int) (.word (Bs.part (.call f ps) trivial (.cons .one (.cons (by rw [e]; exact Tk.parts) .nil))))
theorem bd_ps : ∀ {ps : List Pt}, ∀ S, Bd (wt (xps ps)) S ((encPs ps).map Pi.dat ++ S)
  | [], S => .nil _
  | p :: r, S => by
    show Bd (wt (xp p ++ xps r)) S _
    rw [wt_app]
    exact (bd_ps (ps := r) S).app (bd_p (p := p) _)
end
mutual
theorem bd_d : ∀ {d : Dd}, ∀ m S, Bd (wt (xd d)) (.bod m :: S) (.bod (m ++ [encDd d]) :: S)
  | .set i p, m, S => .cons (.cons (bd_p (p := p) _) .int) (.word (Bs.deed (.set i p) (.cons .one (.cons .one .nil))))
  | .put c p, m, S => by
    have h : Bd (wt (xp c ++ xp p)) (.bod m :: S) (.dat (encP c) :: .dat (encP p) :: .bod m :: S) := by
      rw [wt_app]
      exact (bd_p (p := p) _).app (bd_p (p := c) _)
    exact .cons h (.word (Bs.deed (.put c p) (.cons .one (.cons .one .nil))))
  | .say p, m, S => .cons (bd_p (p := p) _) (.word (Bs.deed (.say p) (.cons .one .nil)))
  | .ite p a b, m, S => by
    have h1 : Bd (wt (xb b ++ [wE])) (.bod m :: S) (.bod (encB b).reverse :: .bod m :: S) := by
      rw [wt_app]
      have := bd_b (b := b) [] (.bod m :: S)
      rw [List.nil_append] at this
      exact (Bd.cons (.nil _) .nd).app this
    have h2 : Bd (wt (wL :: (xb b ++ [wE]))) (.bod m :: S) (.bod [] :: .bod (encB b).reverse :: .bod m :: S) := .cons h1 .els
    have h3 : Bd (wt (xb a ++ (wL :: (xb b ++ [wE])))) (.bod m :: S) (.bod (encB a).reverse :: .bod (encB b).reverse :: .bod m :: S) := by
      rw [wt_app]
      have := bd_b (b := a) [] (.bod (encB b).reverse :: .bod m :: S)
      rw [List.nil_append] at this
      exact h2.app this
    have h4 : Bd (wt (xp p ++ (xb a ++ (wL :: (xb b ++ [wE]))))) (.bod m :: S) (.dat (encP p) :: .bod (encB a).reverse :: .bod (encB b).reverse :: .bod m :: S) := by
      rw [wt_app]
      exact h3.app (bd_p (p := p) _)
    have k := Bs.deed (S := .dat (encP p) :: .bod (encB a).reverse :: .bod (encB b).reverse :: .bod m :: S) (.ite p a b) (.cons .one (.cons .body (.cons .body .nil)))
    rw [List.reverse_reverse, List.reverse_reverse] at k
    exact .cons h4 (.word k)
  | .whl p b, m, S => by
    have h1 : Bd (wt (xb b ++ [wE])) (.bod m :: S) (.bod (encB b).reverse :: .bod m :: S) := by
      rw [wt_app]
      have := bd_b (b := b) [] (.bod m :: S)
      rw [List.nil_append] at this
      exact (Bd.cons (.nil _) .nd).app this
    have h4 : Bd (wt (xp p ++ (xb b ++ [wE]))) (.bod m :: S) (.dat (encP p) :: .bod (encB b).reverse :: .bod m :: S) := by
      rw [wt_app]
      exact h1.app (bd_p (p := p) _)
    have k := Bs.deed (S := .dat (encP p) :: .bod (encB b).reverse :: .bod m :: S) (.whl p b) (.cons .one (.cons .body .nil))
    rw [List.reverse_reverse] at k
    exact .cons h4 (.word k)
  | .ret p, m, S => .cons (bd_p (p := p) _) (.word (Bs.deed (.ret p) (.cons .one .nil)))
  | .dop p, m, S => .cons (bd_p (p := p) _) (.word (Bs.deed (.dop p) (.cons .one .nil)))
theorem bd_b : ∀ {b : List Dd}, ∀ m S, Bd (wt (xb b)) (.bod m :: S) (.bod (m ++ (encB b).reverse) :: S)
  | [], m, S => by
    show Bd [] _ (.bod (m ++ []) :: S)
    rw [List.append_nil]
    exact .nil _
  | d :: r, m, S => by
    show Bd (wt (xd d ++ xb r)) _ (.bod (m ++ (encDd d :: encB r).reverse) :: S)
    rw [wt_app, List.reverse_cons, ← List.append_assoc]
    exact (bd_b (b := r) m S).app (bd_d (d := d) _ S)
end
theorem bd_f (f : Fu) (m : List T) (S : List Pi) : Bd (wt (xf f)) (.bod m :: S) (.bod (m ++ [encF f]) :: S) := by
  have h1 : Bd (wt (xb f.body ++ [wE])) (.bod m :: S) (.bod (encB f.body).reverse :: .bod m :: S) := by
    rw [wt_app]
    have := bd_b (b := f.body) [] (.bod m :: S)
    rw [List.nil_append] at this
    exact (Bd.cons (.nil _) .nd).app this
  have k := Bs.fn (S := .dat (.int f.ps) :: .dat (.int f.nm) :: .bod (encB f.body).reverse :: .bod m :: S) (.cons .one (.cons .one (.cons .body .nil)))
  rw [List.reverse_reverse] at k
  exact .cons (.cons (.cons h1 .int) .int) (.word k)
theorem bd_fs : ∀ (fs : List Fu) (m : List T) (S : List Pi), Bd (wt (xfs fs)) (.bod m :: S) (.bod (m ++ (fs.map encF).reverse) :: S)
  | [], m, S => by
    show Bd [] _ (.bod (m ++ []) :: S)
    rw [List.append_nil]
    exact .nil _
  | f :: r, m, S => by
    show Bd (wt (xf f ++ xfs r)) _ (.bod (m ++ (encF f :: r.map encF).reverse) :: S)
    rw [wt_app, List.reverse_cons, ← List.append_assoc]
    exact (bd_fs r m S).app (bd_f f _ S)
theorem Bs.tot {z : Str} {S S' : List Pi} (h : Bs z S S') : totP S' ≤ totP S + 1 := by
  cases h with
  | fn h => have := h.tot; simp only [totP, List.length_append, List.length_cons, List.length_nil] at this ⊢; omega
  | deed d h => have := h.tot; simp only [totP, List.length_append, List.length_cons, List.length_nil] at this ⊢; omega
  | part p o h => have := h.tot; simp only [totP]; omega
theorem It1.tot {t : T} {S S' : List Pi} (h : It1 t S S') : totP S' ≤ totP S + 1 := by
  cases h with
  | word h => exact h.tot
  | _ => simp only [totP, List.length_nil]; omega
theorem bs_in {z : Str} {S S' : List Pi} (h : Bs z S S') : inT (.str z) ["else", "end"] = false := by
  show inV (.str z) ([V.str "else", V.str "end"]) = false
  cases h with
  | fn h => rfl
  | deed d h => cases d <;> rfl
  | part p o h => cases p with
    | bin op a b => cases op <;> rfl
    | _ => rfl
theorem take_pred {ts : List T} {n i : Nat} (hn : ts.length = n) (hi : i < n) {t : T} (ht : ts[n - 1 - i]? = some t) : ts.take (n - i) = ts.take (n - (i + 1)) ++ [t] := by
  have e : n - i = (n - (i + 1)) + 1 := by omega
  rw [e]
  exact take_snoc (by rw [show n - (i + 1) = n - 1 - i by omega]; exact ht)
theorem ch_own {H0 H H' : Hp} {W : List Addr} (c : Ch K [] H0 H) (d : Ch K W H H') (h : ∀ b ∈ W, H0 b = none) : Ch K [] H0 H' := by
  refine ⟨fun b o e n => d.up b o (c.up b o e n) fun z => ?_, c.kt.trans d.kt⟩
  rw [h b z] at e
  cases e
def spBuilt (K : PySem.W.Frag) : Sp := fun xs H Q _ => ∃ a us ts l, xs = [.ref a] ∧ SqL K H a us ∧ Reps K H us ts ∧ ts.length ≤ 100000 ∧ Bd ts [.bod []] [.bod l] ∧ ∀ H' v, Ch K [] H H' → Rep K H' v (.tup l.reverse) → Q v H'
theorem fn_built (C : Cn w K mg base) : Fn P w K mg base CX0 4 "built" ["items"] (spBuilt K) := C.f_built fun fd F => by
  have F_build : Fn P w K mg base CX0 3 "build" ["word", "pile"] (spBuild K) := fn_build C
  have F_in_turn : Fn P w K mg base CX0 1 "in_turn" ["backwards"] (spInTurn K) := fn_in_turn C
  refine F.ok (CX := CX0) sc_built (fun vs H Q E h => ?_) (fun cdv A outer s H vs Q E hr h => ?_)
  · obtain ⟨a, us, ts, l, rfl, _⟩ := h
    rfl
  · obtain ⟨a, us, ts, l, rfl, ha, rp, lt, bd, q⟩ := h
    have hu := hu_of (hr.mono (j := 1) (by decide))
    refine ⟨_, PSs.nox (pss_cons (ps_set (i := 1) sc_built.nd rfl (Or.inl rfl) (pe_lstC (pa_cons (pe_lstC pa_nil) pa_nil)))
      (pss_cons (ps_for PassesOwn.never rfl (RT.pi_revA (by rfl) (C.m_reversed) (pv 0)) (pg_name (i := 2) sc_built.nd rfl (Or.inl rfl)) (pss_one (ps_if (pt_cmpR (op_inW hu) (pv 2) (pe_tupC (pa_cons pe_str (pa_cons pe_str pa_nil))) (by rfl)) (pss_one (ps_expr (pe_bm PySem.F.plainAttrs_list PySem.F.slot_list_append PySem.F.type_list_append mt_append (pv 1) (pa_cons (pe_lstC pa_nil) pa_nil)))) (pss_one (ps_if (pt_val (pe_callB call_isi (by rfl) (C.m_isinstance) (by decide +kernel) (pa_cons (pv 2) (pa_cons (pe_bty "str" (by rfl) (C.m_str) (by decide +kernel)) pa_nil)))) (pss_one (ps_expr (pe_fn F_build (rmm hr) (by rfl) pass0 (pa_cons (pv 2) (pa_cons (pv 1) pa_nil))))) (pss_one (ps_expr (pe_bm PySem.F.plainAttrs_list PySem.F.slot_list_append PySem.F.type_list_append mt_append (pv 1) (pa_cons (pv 2) pa_nil)))))))))
      (pss_one (ps_ret (pe_fn F_in_turn (rmm hr) (by rfl) pass0 (pa_cons (pe_ix ix_list (pv 1) pe_int (fun _ _ => rfl)) pa_nil)))))), ?_⟩
    walk_at "go"
    refine ⟨szle (by simp), fun b0 H1 n1 e1 c1 => ?_⟩
    walk_at "g"
    refine ⟨szle (by simp), fun p H2 n2 e2 c2 => ?_⟩
    have hpb : p ≠ b0 := fun e => by rw [e, e1] at n2; cases n2
    have eb2 := c2.up _ _ e1 (by simp)
    have pl0 : Pil K H2 p [.bod []] [.ref b0] [b0] := ⟨by rw [e2]; rfl, .bod eb2 .nil .nil, by simpa using hpb, by simp⟩
    have c02 := c1.trans c2
    have fr0 : ∀ b ∈ [p, b0], H b = none := by
      intro b hb
      simp at hb
      rcases hb with rfl | rfl
      · exact c1.free n2 (by simp)
      · exact n1
    have ha2 := c02.sqL ha (by simp)
    have lu : us.length = ts.length := rp.len
    walk_at "g"
    unfold RT.iRevA
    walk_at "g"
    refine ⟨a, us, rfl, .inl ⟨ha2, ?_⟩⟩
    refine for_it (walk_rev (xs := us)) (fun i σ H' => ∃ x2 S vs as, σ = [some (.ref a), some (.ref p), x2] ∧ Ch K [] H H' ∧ Bd (ts.take (us.length - i)) S [.bod l] ∧ Pil K H' p S vs as ∧ (∀ b ∈ p :: as, H b = none) ∧ totP S ≤ 1 + i) ⟨none, [.bod []], _, _, rfl, c02, by rw [Nat.sub_zero, lu, List.take_length]; exact bd, pl0, fr0, by simp [totP]⟩ (fun i σ H' _ ⟨_, _, _, _, _, c, _⟩ => c.sqL ha (by simp)) ?_ ?_
    · rintro i x σ H3 H4 hi ⟨x2, S, vs, as, rfl, c3, bd3, pl3, fr3, tot3⟩ ⟨rfl, hx⟩
      obtain ⟨t, ht, rt⟩ := rp.get hx
      rw [lu] at ht bd3
      rw [take_pred rfl (by omega) ht] at bd3
      obtain ⟨S1, it, bd4⟩ := bd3.snoc
      rw [← lu] at bd4
      have tt := it.tot
      have rt3 := rt.kt c3.kt
      have lS := len_tot S
      have lv := pl3.pr.len
      have epl := pl3.at_
      have lvz : vs.reverse.length < sizeLine := by rw [List.length_reverse, sizeLine_eq]; omega
      walk_at "g"
      refine ⟨szle (by simp), fun w5 H5 n5 e5 c5 => ?_⟩
      have c35 := c3.trans c5
      have pl5 := pl3.ch c5
      have epl5 := pl5.at_
      have rt5 := rt3.kt c5.kt
      walk_at "g"
      refine g_inW (zs := ["else", "end"]) (SqT.of e5) rt5 ?_
      walk_at "g"
      have done : ∀ {H6 : Hp} {us6 : List V} {as6 : List Addr} {x6 : Option V}, Ch K (p :: as) H5 H6 → Pil K H6 p S1 us6 as6 → (∀ b ∈ as6, b ∈ as ∨ H b = none) → ∃ x2 S vs as, [some (V.ref a), some (V.ref p), x6] = [some (V.ref a), some (V.ref p), x2] ∧ Ch K [] H H6 ∧ Bd (ts.take (us.length - (i + 1))) S [.bod l] ∧ Pil K H6 p S vs as ∧ (∀ b ∈ p :: as, H b = none) ∧ totP S ≤ 1 + (i + 1) := by
        intro H6 us6 as6 x6 c6 pl6 sub6
        refine ⟨_, S1, us6, as6, rfl, ch_own c35 c6 fr3, bd4, pl6, fun b hb => ?_, by omega⟩
        rcases List.mem_cons.mp hb with rfl | hb
        · exact fr3 _ (by simp)
        · rcases sub6 b hb with h | h
          · exact fr3 _ (by simp [h])
          · exact h
      cases it with
      | nd =>
        refine tkT (by rfl) ?_
        walk_at "g"
        refine ⟨szle (by simp), fun D H6 n6 e6 c6 => ?_⟩
        have pl6 := pl5.ch c6
        have epl6 := pl6.at_
        walk_at "g"
        have c7 : Ch K [p] H6 (upd H6 p (.lst (vs.reverse ++ [.ref D]))) := Ch.wrL epl6 (by simp)
        have hDp : D ≠ p := fun e => by rw [e, epl5] at n6; cases n6
        have hDas : D ∉ as := fun h => pl5.pr.some D h n6
        refine done (as6 := D :: as) ((c6.mono (by simp)).trans (c7.mono (by simp))) ⟨by rw [upd_same, List.reverse_cons], .bod (c7.up _ _ e6 (by simpa using hDp)) .nil (pl6.pr.ch c7 fun b hb z => pl6.na (by simp at z; rw [← z]; exact hb)), ?_, List.nodup_cons.mpr ⟨hDas, pl6.nd⟩⟩ ?_
        · intro h
          rcases List.mem_cons.mp h with h | h
          · exact hDp h.symm
          · exact pl6.na h
        · intro b hb
          rcases List.mem_cons.mp hb with rfl | h
          · exact .inr (c35.free n6 (by simp))
          · exact .inl h
      | els =>
        refine tkT (by rfl) ?_
        walk_at "g"
        refine ⟨szle (by simp), fun D H6 n6 e6 c6 => ?_⟩
        have pl6 := pl5.ch c6
        have epl6 := pl6.at_
        walk_at "g"
        have c7 : Ch K [p] H6 (upd H6 p (.lst (vs.reverse ++ [.ref D]))) := Ch.wrL epl6 (by simp)
        have hDp : D ≠ p := fun e => by rw [e, epl5] at n6; cases n6
        have hDas : D ∉ as := fun h => pl5.pr.some D h n6
        refine done (as6 := D :: as) ((c6.mono (by simp)).trans (c7.mono (by simp))) ⟨by rw [upd_same, List.reverse_cons], .bod (c7.up _ _ e6 (by simpa using hDp)) .nil (pl6.pr.ch c7 fun b hb z => pl6.na (by simp at z; rw [← z]; exact hb)), ?_, List.nodup_cons.mpr ⟨hDas, pl6.nd⟩⟩ ?_
        · intro h
          rcases List.mem_cons.mp h with h | h
          · exact hDp h.symm
          · exact pl6.na h
        · intro b hb
          rcases List.mem_cons.mp hb with rfl | h
          · exact .inr (c35.free n6 (by simp))
          · exact .inl h
      | @word z _ _ hB =>
        obtain rfl := rt5.strI
        refine tkF (bs_in hB) ?_
        walk_at "g"
        refine g_isi rt5.ty (kit_str (.str z)) ?_
        walk_at "g"
        walk_at "yes"
        refine ⟨z, p, vs, as, S, S1, rfl, pl5, hB, by omega, fun H6 us6 as6 c6 pl6 sub6 => ?_⟩
        exact done c6 pl6 fun b hb => .inl (sub6.subset hb)
      | @int n =>
        walk_at "no"
        refine g_isi rt5.ty (kit_str (.int n)) ?_
        walk_at "g"
        walk_at "no"
        have c7 : Ch K [p] H5 (upd H5 p (.lst (vs.reverse ++ [x]))) := Ch.wrL epl5 (by simp)
        exact done (as6 := as) (c7.mono (by simp)) ⟨by rw [upd_same, List.reverse_cons], .dat (rt5.kt c7.kt) (pl5.pr.ch c7 fun b hb z => pl5.na (by simp at z; rw [← z]; exact hb)), pl5.na, pl5.nd⟩ fun b hb => .inl hb
      | @tup us' =>
        walk_at "no"
        refine g_isi rt5.ty (kit_str (.tup us')) ?_
        walk_at "g"
        walk_at "no"
        have c7 : Ch K [p] H5 (upd H5 p (.lst (vs.reverse ++ [x]))) := Ch.wrL epl5 (by simp)
        exact done (as6 := as) (c7.mono (by simp)) ⟨by rw [upd_same, List.reverse_cons], .dat (rt5.kt c7.kt) (pl5.pr.ch c7 fun b hb z => pl5.na (by simp at z; rw [← z]; exact hb)), pl5.na, pl5.nd⟩ fun b hb => .inl hb
    · rintro σ H3 ⟨x2, S, vs, as, rfl, c3, bd3, pl3, fr3, tot3⟩
      rw [Nat.sub_self, List.take_zero] at bd3
      cases bd3
      obtain ⟨epl, pr, _, _⟩ := pl3
      cases pr with
      | @bod b ws _ _ _ _ eb hb r =>
      cases r
      walk_at "g"
      refine ⟨b, ws, rfl, SqL.of eb, fun H4 v c4 e4 => ?_⟩
      exact q _ _ (c3.trans c4) (.tup (SqT.of e4) (reps_rev (hb.kt c4.kt)))
end
end K3
end

section
set_option maxRecDepth 100000
set_option maxHeartbeats 1000000
open Bq L2
/-- one step of a reading; what is left are side goals and places to think -/
local macro_rules | `(tactic| walk_at "g1") => `(tactic| first
  | with_reducible refine' g_seq ?_ | with_reducible refine' g_asg ?_ | with_reducible refine' g_drop ?_ | with_reducible refine' g_ret ?_ | with_reducible refine' g_ifS ?_ | with_reducible refine' g_asgG ?_
  | ((with_reducible refine' g_var ?hv ?_); (case hv => rfl))
  | with_reducible refine' g_c ?_ | with_reducible refine' g_op ?_ | with_reducible refine' g_un ?_ | with_reducible refine' g_I0 ?_ | with_reducible refine' g_U ?_
  | with_reducible refine' g_test ?_ | with_reducible refine' g_tB ?_ | with_reducible refine Exists.intro _ (And.intro rfl ?_) 
  | ((with_reducible refine' g_andP ?ha ?hb ?_); (case ha => intro R q; walk_at "g"; exact q); (case hb => intro R q; walk_at "g"; exact q))
  | ((with_reducible refine' g_orP ?ha ?hb ?_); (case ha => intro R q; walk_at "g"; exact q); (case hb => intro R q; walk_at "g"; exact q))
  | with_reducible refine' g_and ?_ | with_reducible refine' g_or ?_ | with_reducible refine' g_not ?_
  | with_reducible refine' g_andV ?_ | with_reducible refine' g_orV ?_ | with_reducible refine' g_notV ?_ | with_reducible refine' g_if ?_ | with_reducible refine' g_nil ?_ | with_reducible refine' g_cons ?_
  | with_reducible refine' g_tup ?_ | with_reducible refine' g_lst ?_ | with_reducible refine' g_CB ?_ | with_reducible refine' g_Fn ?_ | with_reducible refine' g_next ?_ | with_reducible refine' g_retN ?_
  | with_reducible refine' g_name ?_ | with_reducible refine' g_sub ?_
  | ((with_reducible refine' g_ixL ?hs ?he ?_); (case hs => walk_at "lk"); (case he => walk_at "at"))
  | ((with_reducible refine' g_ixT ?hs ?he ?_); (case hs => walk_at "lk"); (case he => walk_at "at"))
  | ((with_reducible refine' g_setL ?hs ?he ?_); (case hs => walk_at "hp"); (case he => rfl))
  | ((with_reducible refine' g_app ?hs ?hz ?_); (case hs => walk_at "hp"); (case hz => walk_at "sz"))
  | ((with_reducible refine' ⟨_, _, rfl, Or.inl ?hs, ?_⟩); (case hs => walk_at "lk"))
  | ((with_reducible refine' ⟨_, _, rfl, Or.inr ?hs, ?_⟩); (case hs => walk_at "lk"))
  | with_reducible refine' g_BM ?_ | with_reducible refine' g_BM0 ?_ | ((with_reducible refine' g_tyL ?hs ?_); (case hs => walk_at "lk"))
  | with_reducible refine' g_sl ?_ | with_reducible refine' g_noPart ?_ | with_reducible refine' g_part ?_
  | ((with_reducible refine' g_inT ?hs ?fx ?fs ?_); (case hs => walk_at "lk"); (case fx => rfl); (case fs => rfl))
  | with_reducible refine' g_pair ?_ | with_reducible refine' g_pair0 ?_ | with_reducible refine' g_disp ?_
  | with_reducible refine' g_for ?_ | with_reducible refine' g_tupC ?_ | with_reducible refine' g_lstC ?_ | ((with_reducible refine' g_lens ?_)) | with_reducible refine' g_dg ?_ | with_reducible refine' g_lc ?_ | with_reducible refine' g_rng1 ?_ | with_reducible refine' g_ilist ?_ | with_reducible refine' g_itup ?_
  | ((with_reducible refine' ⟨_, _, rfl, ?hd, ?_⟩); (case hd => walk_at "dg"))
  | ((with_reducible refine' g_eqNil ?hs ?hz ?_); (case hs => walk_at "lk"); (case hz => walk_at "lk"))
  | ((with_reducible refine' g_neNil ?hs ?hz ?_); (case hs => walk_at "lk"); (case hz => walk_at "lk"))
  | with_reducible refine Or.inl ⟨_, rfl, ?_⟩
  | with_reducible refine Or.inr ⟨_, rfl, ?_⟩
  | ((with_reducible refine' g_eq ?hs ?_); (case hs => rfl))
  | ((with_reducible refine' g_ne ?hs ?_); (case hs => rfl))
  | ((with_reducible refine' g_I ?hc ?_); (case hc => walk_at "ar")))
/-- arithmetic's side conditions -/
local macro_rules | `(tactic| walk_at "ar") => `(tactic| (first
  | (show (0 : Int) < _; first | omega | decide) | (show (0 : Int) < _ ∧ _; constructor <;> omega) | (show ¬ (_ : Int) = _; omega) | (show (_ : Int) ≠ _ ∧ _; constructor <;> omega)
  | (show (-(2 ^ 64) < _ ∧ _) ∨ _; (first | (left; constructor <;> omega) | (right; constructor <;> omega))) | (show (0 : Int) ≤ _ ∧ _ ∧ _; refine ⟨by omega, by omega, by decide⟩)))
/-- what stands at an index -/
local macro_rules | `(tactic| walk_at "at") => `(tactic| first | rfl | assumption)
/-- what stands at an address -/
local macro_rules | `(tactic| walk_at "hp") => `(tactic| first | assumption | exact upd_same | ((refine' Eq.trans (upd_ne ?hn) ?hm); (case hm => walk_at "hp"); (case hn => walk_at "ne")))
/-- two places are two -/
local macro_rules | `(tactic| walk_at "ne") => `(tactic| first
  | assumption | exact Ne.symm (by assumption)
  | ((refine' ne_of_none ?ha ?hb); (case hb => assumption); (case ha => walk_at "hp")) | ((refine' Ne.symm (ne_of_none ?ha ?hb)); (case hb => assumption); (case ha => walk_at "hp")))
/-- what a dict tells -/
local macro_rules | `(tactic| walk_at "dg") => `(tactic| first | assumption)
/-- a length -/
local macro_rules | `(tactic| walk_at "sz") => `(tactic| first | (show _ ≤ sizeLine; decide) | (show _ < sizeLine; decide) | assumption | exact szlt (by simp) | exact szle (by simp))
/-- a list or tuple that stands -/
local macro_rules | `(tactic| walk_at "lk") => `(tactic| first | assumption | exact SqL.of (by assumption) | exact SqT.of (by assumption) | exact SqL.of upd_same | exact SqT.of upd_same | (refine' FzL.sq ?hm; (case hm => walk_at "fz")))
/-- a list that nobody writes -/
local macro_rules | `(tactic| walk_at "fz") => `(tactic| first | assumption | ((refine' FzL.uw ?hm ?hx); (case hx => walk_at "hp"); (case hm => walk_at "fz")) | ((refine' FzL.nw ?hm ?hx); (case hx => assumption); (case hm => walk_at "fz")))
/-- as far as it goes by itself -/
local macro_rules | `(tactic| walk_at "g") => `(tactic| repeat walk_at "g1")
/-- the body's reading, its places in short -/
local macro_rules | `(tactic| walk_at "go") => `(tactic| ((try dsimp only [cxOf, Cx.nox, Cx.wish]); walk_at "g"))
namespace K3
open PySem PySem.Spec PyProof.Rows L2 Bq
section
variable {P : Program} {w : World} {K : PySem.W.Frag} {mg : Str → Option Value} {base : Heap}
/-- further steps: dicts written, tuples taken apart -/
local macro_rules | `(tactic| walk_at "g1") => `(tactic| first
  | with_reducible refine' g_sdput ?_
  | ((with_reducible refine' g_gtup ?hs ?hl ?_); (case hs => walk_at "lk"); (case hl => rfl))
  | with_reducible refine' g_gcons ?_
  | with_reducible refine' g_gnil ?_
  | with_reducible refine' And.intro (Eq.refl V.non) ?_
  | with_reducible refine' g_isN ?_
  | ((with_reducible refine' g_chainR ?ha ?hb ?hc ?_); (case ha => intro R q; walk_at "g"; exact q); (case hb => intro R q; walk_at "g"; exact q); (case hc => intro R q; walk_at "g"; exact q))
  | with_reducible refine' g_notN ?_)
/-- what the law's dict tells -/
local macro_rules | `(tactic| walk_at "dg") => `(tactic| first
  | assumption
  | exact LH.gfuns (by assumption)
  | exact LH.gsaid (by assumption)
  | exact LH.gcells (by assumption)
  | exact LH.gfuel (by assumption)
  | exact LH.gend (by assumption)
  | exact LH.gcalls (by assumption)
  | exact LH.gnames (by assumption)
  | exact LH.gwaits (by assumption)
  | exact LH.gworth (by assumption)
  | exact LH.glook (by assumption))
/-- a test that fails, that holds, by itself -/
local macro_rules | `(tactic| walk_at "no") => `(tactic| ((refine tkF rfl ?_); walk_at "g"))
local macro_rules | `(tactic| walk_at "yes") => `(tactic| ((refine tkT rfl ?_); walk_at "g"))
local macro_rules | `(tactic| walk_at "g1") => `(tactic| first
  | with_reducible refine' g_catS ?_
  | with_reducible refine' g_mulS ?_
  | with_reducible refine' g_rev ?_)
/-- texts: methods, signs, slices -/
local macro_rules | `(tactic| walk_at "g1") => `(tactic| first
  | with_reducible refine' g_tm0 ?_
  | with_reducible refine' g_tm1 ?_
  | with_reducible refine' g_isdig ?_
  | with_reducible refine' g_isasc ?_
  | with_reducible refine' g_starts ?_
  | with_reducible refine' g_str0 ?_
  | with_reducible refine' g_revL ?_
  | with_reducible refine' g_nilTrue ?_
  | with_reducible refine' g_chainT ?_)
/-! ### a list or a tuple walked -/
def iSeq (K : PySem.W.Frag) (tl : TE) : TI := fun σ H R => tl σ H fun x H1 => ∃ a, x = .ref a ∧ (((∃ xs, SqL K H1 a xs) ∧ R (Itl K a) H1) ∨ ((∃ xs, SqT K H1 a xs) ∧ R (Itt K a) H1))
theorem pi_seq {X : Cx} {tg l : Expr} {tl : TE} (hl : PE X l tl) : PI X tg l (iSeq X.K tl) := by
  refine ⟨fun pins s σ H R I h => ?_⟩
  refine thn (hl.run pins s σ H _ I h) fun v s1 ⟨x, H1, I1, r1, q1⟩ => ?_
  obtain ⟨a, e, q⟩ := q1
  subst e
  cases r1
  rcases q with ⟨⟨xs, hq⟩, q⟩ | ⟨⟨xs, hq⟩, q⟩
  · obtain ⟨its, rv, p, hz⟩ := I1.list hq
    refine wpAny_pyIter_list p.isList ?_
    refine ⟨s1.heap.objs.size, [s1.heap.objs.size], _, _, H1, rfl, I1.kept (t' := s1.toks) fun b o e => Heap.get?_push_of_some _ e, turn_list a _, ⟨_, Heap.get?_push_size _ rfl, rfl, rfl⟩, fun b hb => ?_, q⟩
    have e : b = s1.heap.objs.size := by simpa using hb
    subst e
    exact I1.fpOk (Nat.le_refl _) (I1.hok.fresh (Nat.le_refl _))
  · obtain ⟨its, rv, p, hz⟩ := I1.tuple hq
    refine wpAny_pyIter_tuple (show s1.heap.IsTuple a its.toArray from p) ?_
    refine ⟨s1.heap.objs.size, [s1.heap.objs.size], _, _, H1, rfl, I1.kept (t' := s1.toks) fun b o e => Heap.get?_push_of_some _ e, turn_tuple a _, ⟨_, Heap.get?_push_size _ rfl, rfl, rfl⟩, fun b hb => ?_, q⟩
    have e : b = s1.heap.objs.size := by simpa using hb
    subst e
    exact I1.fpOk (Nat.le_refl _) (I1.hok.fresh (Nat.le_refl _))
/-! ### how deep the writing goes -/
mutual
def whD : Dd → Nat
  | .set _ p => 3 + 2 * dpP p
  | .put c p => 3 + max (2 * dpP c) (2 * dpP p)
  | .say p => 3 + 2 * dpP p
  | .ite p a b => 3 + max (2 * dpP p) (max (whB a) (whB b))
  | .whl p b => 3 + max (2 * dpP p) (whB b)
  | .ret p => 3 + 2 * dpP p
  | .dop p => 3 + 2 * dpP p
def whB : List Dd → Nat
  | [] => 0
  | d :: r => max (whD d) (whB r)
end
def whT : Th → Nat
  | .p p => 2 * dpP p
  | .d d => whD d
def xT : Th → List WT
  | .p p => xp p
  | .d d => xd d
def txT : Th → Prop
  | .p p => txP p
  | .d d => txD d
def xTs : List Th → List WT
  | [] => []
  | t :: r => xT t ++ xTs r
theorem xTs_app : ∀ a b : List Th, xTs (a ++ b) = xTs a ++ xTs b
  | [], _ => rfl
  | p :: r, b => by
    show xT p ++ xTs (r ++ b) = (xT p ++ xTs r) ++ xTs b
    rw [xTs_app r b, List.append_assoc]
theorem xTs_ps : ∀ ps : List Pt, xTs (ps.map Th.p) = xps ps
  | [] => rfl
  | p :: r => congrArg (xp p ++ ·) (xTs_ps r)
theorem xTs_b : ∀ b : List Dd, xTs (b.map Th.d) = xb b
  | [] => rfl
  | p :: r => congrArg (xd p ++ ·) (xTs_b r)
theorem encPs_map : ∀ ps : List Pt, encPs ps = (ps.map Th.p).map encT
  | [] => rfl
  | p :: r => congrArg (encP p :: ·) (encPs_map r)
theorem encB_mapT : ∀ b : List Dd, encB b = (b.map Th.d).map encT
  | [] => rfl
  | p :: r => congrArg (encDd p :: ·) (encB_mapT r)
theorem txPs_all : ∀ {ps : List Pt}, txPs ps → ∀ p ∈ ps, txP p
  | _ :: _, h, p, hp => by
    rcases List.mem_cons.mp hp with rfl | hp
    · exact h.1
    · exact txPs_all h.2 p hp
theorem txB_all : ∀ {b : List Dd}, txB b → ∀ d ∈ b, txD d
  | _ :: _, h, p, hp => by
    rcases List.mem_cons.mp hp with rfl | hp
    · exact h.1
    · exact txB_all h.2 p hp
theorem dpPs_all : ∀ {ps : List Pt} {p : Pt}, p ∈ ps → dpP p ≤ dpPs ps
  | q :: r, p, hp => by
    rcases List.mem_cons.mp hp with rfl | hp
    · exact Nat.le_max_left ..
    · exact Nat.le_trans (dpPs_all hp) (Nat.le_max_right ..)
theorem whB_all : ∀ {b : List Dd} {d : Dd}, d ∈ b → whD d ≤ whB b
  | q :: r, p, hp => by
    rcases List.mem_cons.mp hp with rfl | hp
    · simp only [whB]; exact Nat.le_max_left ..
    · simp only [whB]; exact Nat.le_trans (whB_all hp) (Nat.le_max_right ..)
theorem whT_pos (t : Th) : 2 ≤ whT t := by
  cases t with
  | p p => cases p <;> simp only [whT, dpP] <;> omega
  | d d => cases d <;> simp only [whT, whD] <;> omega
def spW (K : PySem.W.Frag) (n : Nat) : Sp := fun vs H Q _ => ∃ v t l ws, vs = [v, .ref l] ∧ Rep K H v (encT t) ∧ txT t ∧ whT t ≤ n ∧ H l = some (.lst (ws.map V.str)) ∧ ws.length + (xT t).length ≤ 100000 ∧
  ∀ H', Ch K [l] H H' → H' l = some (.lst ((ws ++ ww (xT t)).map V.str)) → Q .non H'
def spAll (K : PySem.W.Frag) (n : Nat) : Sp := fun vs H Q _ => ∃ a us ths l ws, vs = [.ref a, .ref l] ∧ ((SqL K H a us ∧ a ≠ l) ∨ SqT K H a us) ∧ Reps K H us (ths.map encT) ∧ (∀ t ∈ ths, txT t ∧ whT t ≤ n) ∧ H l = some (.lst (ws.map V.str)) ∧ ws.length + (xTs ths).length ≤ 100000 ∧
  ∀ H', Ch K [l] H H' → H' l = some (.lst ((ws ++ ww (xTs ths)).map V.str)) → Q .non H'
theorem fn_all (C : Cn w K mg base) (n : Nat) (F_write_thing : Fn P w K mg base CX0 (n + 2) "write_thing" ["thing", "words"] (spW K n)) : Fn P w K mg base CX0 (n + 3) "write_all" ["things", "words"] (spAll K n) := C.f_write_all fun fd F => by
  refine F.ok (CX := CX0) sc_write_all (fun vs H Q E h => ?_) (fun cdv A outer s H vs Q E hr h => ?_)
  · obtain ⟨a, us, ths, l, ws, rfl, _⟩ := h
    rfl
  · obtain ⟨a, us, ths, l, ws, rfl, ha, rp, ok, el, sz, q⟩ := h
    refine ⟨_, PSs.nox (pss_one (ps_for PassesOwn.never rfl (pi_seq (pv 0)) (pg_name (i := 2) sc_write_all.nd rfl (Or.inl rfl)) (pss_one (ps_expr (pe_fn F_write_thing (rmm hr) (by rfl) pass0 (pa_cons (pv 2) (pa_cons (pv 1) pa_nil))))))), ?_⟩
    have lu : us.length = ths.length := by rw [rp.len, List.length_map]
    have step : ∀ (i : Nat) (x : V) (H1 : Hp) (R : VK) (E : XK), i < us.length → us[i]? = some x → Ch K [l] H H1 → H1 l = some (.lst ((ws ++ ww (xTs (ths.take i))).map V.str)) →
        (∀ H2, Ch K [l] H H2 → H2 l = some (.lst ((ws ++ ww (xTs (ths.take (i + 1)))).map V.str)) → R .non H2) → spW K n [x, .ref l] H1 R E := by
      intro i x H1 R E hi hx c1 e1 k
      obtain ⟨t, ht, rt⟩ := rp.get hx
      rw [List.getElem?_map] at ht
      cases hq : ths[i]? with
      | none => rw [hq] at ht; cases ht
      | some q0 =>
        rw [hq] at ht
        cases ht
        have hs : xTs ths = xTs (ths.take i) ++ (xT q0 ++ xTs (ths.drop (i + 1))) := by
          have e0 : ths = ths.take i ++ q0 :: ths.drop (i + 1) := by
            obtain ⟨h1, h2⟩ := List.getElem?_eq_some_iff.mp hq
            rw [← h2, ← List.drop_eq_getElem_cons h1, List.take_append_drop]
          exact (congrArg xTs e0).trans (xTs_app _ _)
        rw [hs, List.length_append, List.length_append] at sz
        have okq := ok q0 (List.mem_of_getElem? hq)
        refine ⟨x, q0, l, _, rfl, rt.kt c1.kt, okq.1, okq.2, e1, by rw [List.length_append, ww_len]; omega, fun H2 c2 e2 => ?_⟩
        refine k H2 (c1.trans c2) ?_
        rw [e2, take_snoc hq, xTs_app, ww_app, List.append_assoc, show xTs [q0] = xT q0 from by simp [xTs]]
    have fin : ∀ H1, Ch K [l] H H1 → H1 l = some (.lst ((ws ++ ww (xTs (ths.take us.length))).map V.str)) → Q .non H1 := by
      intro H1 c1 e1
      rw [lu, List.take_length] at e1
      exact q H1 c1 e1
    walk_at "go"
    unfold iSeq
    walk_at "g"
    rcases ha with ⟨ha, na⟩ | ha
    · refine .inl ⟨⟨_, ha⟩, for_it (walk_list (xs := us)) (fun i σ H' => ∃ x2, σ = [some (.ref a), some (.ref l), x2] ∧ Ch K [l] H H' ∧ H' l = some (.lst ((ws ++ ww (xTs (ths.take i))).map V.str))) ⟨none, rfl, Ch.refl, by rw [el]; simp [xTs, ww]⟩ (fun i σ H' _ ⟨_, _, c, _⟩ => c.sqL ha (by simpa using na)) ?_ ?_⟩
      · rintro i x σ H1 _ hi ⟨x2, rfl, c1, e1⟩ ⟨rfl, hx⟩
        walk_at "g"
        refine step i x _ _ _ hi hx c1 e1 fun H2 c2 e2 => ?_
        exact ⟨_, rfl, c2, e2⟩
      · rintro σ H1 ⟨x2, rfl, c1, e1⟩
        exact fin H1 c1 e1
    · refine .inr ⟨⟨_, ha⟩, for_it (walk_tup (xs := us)) (fun i σ H' => ∃ x2, σ = [some (.ref a), some (.ref l), x2] ∧ Ch K [l] H H' ∧ H' l = some (.lst ((ws ++ ww (xTs (ths.take i))).map V.str))) ⟨none, rfl, Ch.refl, by rw [el]; simp [xTs, ww]⟩ (fun i σ H' _ ⟨_, _, c, _⟩ => c.sqT ha) ?_ ?_⟩
      · rintro i x σ H1 _ hi ⟨x2, rfl, c1, e1⟩ ⟨rfl, hx⟩
        walk_at "g"
        refine step i x _ _ _ hi hx c1 e1 fun H2 c2 e2 => ?_
        exact ⟨_, rfl, c2, e2⟩
      · rintro σ H1 ⟨x2, rfl, c1, e1⟩
        exact fin H1 c1 e1
end
end K3
end

section
set_option maxRecDepth 100000
set_option maxHeartbeats 1000000
open Bq L2
/-- one step of a reading; what is left are side goals and places to think -/
local macro_rules | `(tactic| walk_at "g1") => `(tactic| first
  | with_reducible refine' g_seq ?_ | with_reducible refine' g_asg ?_ | with_reducible refine' g_drop ?_ | with_reducible refine' g_ret ?_ | with_reducible refine' g_ifS ?_ | with_reducible refine' g_asgG ?_
  | ((with_reducible refine' g_var ?hv ?_); (case hv => rfl))
  | with_reducible refine' g_c ?_ | with_reducible refine' g_op ?_ | with_reducible refine' g_un ?_ | with_reducible refine' g_I0 ?_ | with_reducible refine' g_U ?_
  | with_reducible refine' g_test ?_ | with_reducible refine' g_tB ?_ | with_reducible refine Exists.intro _ (And.intro rfl ?_) 
  | ((with_reducible refine' g_andP ?ha ?hb ?_); (case ha => intro R q; walk_at "g"; exact q); (case hb => intro R q; walk_at "g"; exact q))
  | ((with_reducible refine' g_orP ?ha ?hb ?_); (case ha => intro R q; walk_at "g"; exact q); (case hb => intro R q; walk_at "g"; exact q))
  | with_reducible refine' g_and ?_ | with_reducible refine' g_or ?_ | with_reducible refine' g_not ?_
  | with_reducible refine' g_andV ?_ | with_reducible refine' g_orV ?_ | with_reducible refine' g_notV ?_ | with_reducible refine' g_if ?_ | with_reducible refine' g_nil ?_ | with_reducible refine' g_cons ?_
  | with_reducible refine' g_tup ?_ | with_reducible refine' g_lst ?_ | with_reducible refine' g_CB ?_ | with_reducible refine' g_Fn ?_ | with_reducible refine' g_next ?_ | with_reducible refine' g_retN ?_
  | with_reducible refine' g_name ?_ | with_reducible refine' g_sub ?_
  | ((with_reducible refine' g_ixL ?hs ?he ?_); (case hs => walk_at "lk"); (case he => walk_at "at"))
  | ((with_reducible refine' g_ixT ?hs ?he ?_); (case hs => walk_at "lk"); (case he => walk_at "at"))
  | ((with_reducible refine' g_setL ?hs ?he ?_); (case hs => walk_at "hp"); (case he => rfl))
  | ((with_reducible refine' g_app ?hs ?hz ?_); (case hs => walk_at "hp"); (case hz => walk_at "sz"))
  | ((with_reducible refine' ⟨_, _, rfl, Or.inl ?hs, ?_⟩); (case hs => walk_at "lk"))
  | ((with_reducible refine' ⟨_, _, rfl, Or.inr ?hs, ?_⟩); (case hs => walk_at "lk"))
  | with_reducible refine' g_BM ?_ | with_reducible refine' g_BM0 ?_ | ((with_reducible refine' g_tyL ?hs ?_); (case hs => walk_at "lk"))
  | with_reducible refine' g_sl ?_ | with_reducible refine' g_noPart ?_ | with_reducible refine' g_part ?_
  | ((with_reducible refine' g_inT ?hs ?fx ?fs ?_); (case hs => walk_at "lk"); (case fx => rfl); (case fs => rfl))
  | with_reducible refine' g_pair ?_ | with_reducible refine' g_pair0 ?_ | with_reducible refine' g_disp ?_
  | with_reducible refine' g_for ?_ | with_reducible refine' g_tupC ?_ | with_reducible refine' g_lstC ?_ | ((with_reducible refine' g_lens ?_)) | with_reducible refine' g_dg ?_ | with_reducible refine' g_lc ?_ | with_reducible refine' g_rng1 ?_ | with_reducible refine' g_ilist ?_ | with_reducible refine' g_itup ?_
  | ((with_reducible refine' ⟨_, _, rfl, ?hd, ?_⟩); (case hd => walk_at "dg"))
  | ((with_reducible refine' g_eqNil ?hs ?hz ?_); (case hs => walk_at "lk"); (case hz => walk_at "lk"))
  | ((with_reducible refine' g_neNil ?hs ?hz ?_); (case hs => walk_at "lk"); (case hz => walk_at "lk"))
  | with_reducible refine Or.inl ⟨_, rfl, ?_⟩
  | with_reducible refine Or.inr ⟨_, rfl, ?_⟩
  | ((with_reducible refine' g_eq ?hs ?_); (case hs => rfl))
  | ((with_reducible refine' g_ne ?hs ?_); (case hs => rfl))
  | ((with_reducible refine' g_I ?hc ?_); (case hc => walk_at "ar")))
/-- arithmetic's side conditions -/
local macro_rules | `(tactic| walk_at "ar") => `(tactic| (first
  | (show (0 : Int) < _; first | omega | decide) | (show (0 : Int) < _ ∧ _; constructor <;> omega) | (show ¬ (_ : Int) = _; omega) | (show (_ : Int) ≠ _ ∧ _; constructor <;> omega)
  | (show (-(2 ^ 64) < _ ∧ _) ∨ _; (first | (left; constructor <;> omega) | (right; constructor <;> omega))) | (show (0 : Int) ≤ _ ∧ _ ∧ _; refine ⟨by omega, by omega, by decide⟩)))
/-- what stands at an index -/
local macro_rules | `(tactic| walk_at "at") => `(tactic| first | rfl | assumption)
/-- what stands at an address -/
local macro_rules | `(tactic| walk_at "hp") => `(tactic| first | assumption | exact upd_same | ((refine' Eq.trans (upd_ne ?hn) ?hm); (case hm => walk_at "hp"); (case hn => walk_at "ne")))
/-- two places are two -/
local macro_rules | `(tactic| walk_at "ne") => `(tactic| first
  | assumption | exact Ne.symm (by assumption)
  | ((refine' ne_of_none ?ha ?hb); (case hb => assumption); (case ha => walk_at "hp")) | ((refine' Ne.symm (ne_of_none ?ha ?hb)); (case hb => assumption); (case ha => walk_at "hp")))
/-- what a dict tells -/
local macro_rules | `(tactic| walk_at "dg") => `(tactic| first | assumption)
/-- a length -/
local macro_rules | `(tactic| walk_at "sz") => `(tactic| first | (show _ ≤ sizeLine; decide) | (show _ < sizeLine; decide) | assumption | exact szlt (by simp) | exact szle (by simp))
/-- a list or tuple that stands -/
local macro_rules | `(tactic| walk_at "lk") => `(tactic| first | assumption | exact SqL.of (by assumption) | exact SqT.of (by assumption) | exact SqL.of upd_same | exact SqT.of upd_same | (refine' FzL.sq ?hm; (case hm => walk_at "fz")))
/-- a list that nobody writes -/
local macro_rules | `(tactic| walk_at "fz") => `(tactic| first | assumption | ((refine' FzL.uw ?hm ?hx); (case hx => walk_at "hp"); (case hm => walk_at "fz")) | ((refine' FzL.nw ?hm ?hx); (case hx => assumption); (case hm => walk_at "fz")))
/-- as far as it goes by itself -/
local macro_rules | `(tactic| walk_at "g") => `(tactic| repeat walk_at "g1")
/-- the body's reading, its places in short -/
local macro_rules | `(tactic| walk_at "go") => `(tactic| ((try dsimp only [cxOf, Cx.nox, Cx.wish]); walk_at "g"))
namespace K3
open PySem PySem.Spec PyProof.Rows L2 Bq
section
variable {P : Program} {w : World} {K : PySem.W.Frag} {mg : Str → Option Value} {base : Heap}
/-- further steps: dicts written, tuples taken apart -/
local macro_rules | `(tactic| walk_at "g1") => `(tactic| first
  | with_reducible refine' g_sdput ?_
  | ((with_reducible refine' g_gtup ?hs ?hl ?_); (case hs => walk_at "lk"); (case hl => rfl))
  | with_reducible refine' g_gcons ?_
  | with_reducible refine' g_gnil ?_
  | with_reducible refine' And.intro (Eq.refl V.non) ?_
  | with_reducible refine' g_isN ?_
  | ((with_reducible refine' g_chainR ?ha ?hb ?hc ?_); (case ha => intro R q; walk_at "g"; exact q); (case hb => intro R q; walk_at "g"; exact q); (case hc => intro R q; walk_at "g"; exact q))
  | with_reducible refine' g_notN ?_)
/-- what the law's dict tells -/
local macro_rules | `(tactic| walk_at "dg") => `(tactic| first
  | assumption
  | exact LH.gfuns (by assumption)
  | exact LH.gsaid (by assumption)
  | exact LH.gcells (by assumption)
  | exact LH.gfuel (by assumption)
  | exact LH.gend (by assumption)
  | exact LH.gcalls (by assumption)
  | exact LH.gnames (by assumption)
  | exact LH.gwaits (by assumption)
  | exact LH.gworth (by assumption)
  | exact LH.glook (by assumption))
/-- a test that fails, that holds, by itself -/
local macro_rules | `(tactic| walk_at "no") => `(tactic| ((refine tkF rfl ?_); walk_at "g"))
local macro_rules | `(tactic| walk_at "yes") => `(tactic| ((refine tkT rfl ?_); walk_at "g"))
local macro_rules | `(tactic| walk_at "g1") => `(tactic| first
  | with_reducible refine' g_catS ?_
  | with_reducible refine' g_mulS ?_
  | with_reducible refine' g_rev ?_)
/-- texts: methods, signs, slices -/
local macro_rules | `(tactic| walk_at "g1") => `(tactic| first
  | with_reducible refine' g_tm0 ?_
  | with_reducible refine' g_tm1 ?_
  | with_reducible refine' g_isdig ?_
  | with_reducible refine' g_isasc ?_
  | with_reducible refine' g_starts ?_
  | with_reducible refine' g_str0 ?_
  | with_reducible refine' g_revL ?_
  | with_reducible refine' g_nilTrue ?_
  | with_reducible refine' g_chainT ?_)
def xBods : List (List Dd) → List WT
  | [] => []
  | [b] => xb b
  | b :: c :: r => xb b ++ (wL :: xBods (c :: r))
theorem xBods_snoc : ∀ {r : List (List Dd)} (b : List Dd), r ≠ [] → xBods (r ++ [b]) = xBods r ++ (wL :: xb b)
  | [], _, h => (h rfl).elim
  | [a], b, _ => rfl
  | a :: c :: r, b, _ => by
    have ih := xBods_snoc (r := c :: r) b (by simp)
    show xb a ++ (wL :: xBods ((c :: r) ++ [b])) = (xb a ++ (wL :: xBods (c :: r))) ++ _
    rw [ih]
    simp
def spBods (K : PySem.W.Frag) (n : Nat) : Sp := fun vs H Q _ => ∃ a us bs l ws, vs = [.ref a, .ref l] ∧ SqL K H a us ∧ a ≠ l ∧ Reps K H us (bs.map fun b => T.tup (encB b)) ∧ (∀ b ∈ bs, txB b ∧ whB b ≤ n) ∧ H l = some (.lst (ws.map V.str)) ∧ ws.length + (xBods bs).length + 1 ≤ 100000 ∧
  ∀ H', Ch K [l] H H' → H' l = some (.lst ((ws ++ ww (xBods bs ++ [wE])).map V.str)) → Q .non H'
theorem fn_bods (C : Cn w K mg base) (n : Nat) (F_write_all : Fn P w K mg base CX0 (n + 3) "write_all" ["things", "words"] (spAll K n)) : Fn P w K mg base CX0 (n + 4) "write_bodies" ["bodies", "words"] (spBods K n) := C.f_write_bodies fun fd F => by
  refine F.ok (CX := CX0) sc_write_bodies (fun vs H Q E h => ?_) (fun cdv A outer s H vs Q E hr h => ?_)
  · obtain ⟨a, us, ths, l, ws, rfl, _⟩ := h
    rfl
  · obtain ⟨a, us, bs, l, ws, rfl, ha, na, rp, ok, el, sz, q⟩ := h
    refine ⟨_, PSs.nox (pss_cons (ps_for PassesOwn.never rfl (pi_enum (by rfl) (C.m_enumerate) (pa_cons (pv 0) pa_nil)) (pg_tup rfl (pgs_cons (pg_name (i := 2) sc_write_bodies.nd rfl (Or.inl rfl)) (pgs_cons (pg_name (i := 3) sc_write_bodies.nd rfl (Or.inl rfl)) pgs_nil))) (Evl.pss_cut (ps_if (pt_cmpR op_gt (pv 2) pe_int (nomark _)) (pss_one (ps_expr (pe_bm PySem.F.plainAttrs_list PySem.F.slot_list_append PySem.F.type_list_append mt_append (pv 1) (pa_cons pe_str pa_nil)))) pss_nil)
      (pss_one (ps_expr (pe_fn F_write_all (rmm hr) (by rfl) pass0 (pa_cons (pv 3) (pa_cons (pv 1) pa_nil)))))))
      (pss_one (ps_expr (pe_bm PySem.F.plainAttrs_list PySem.F.slot_list_append PySem.F.type_list_append mt_append (pv 1) (pa_cons pe_str pa_nil))))), ?_⟩
    have lu : us.length = bs.length := by rw [rp.len, List.length_map]
    walk_at "go"
    unfold iEnum
    walk_at "g"
    refine for_it (walk_enum (xs := us)) (fun i σ H' => ∃ x2 x3, σ = [some (.ref a), some (.ref l), x2, x3] ∧ Ch K [l] H H' ∧ H' l = some (.lst ((ws ++ ww (xBods (bs.take i))).map V.str))) ⟨none, none, rfl, Ch.refl, by rw [el]; simp [xBods, ww]⟩ (fun i σ H' _ ⟨_, _, _, c, _⟩ => c.sqL ha (by simpa using na)) ?_ ?_
    · rintro i x1 σ H1 H2 hi ⟨x2, x3, rfl, c1, e1⟩ ⟨T1, xa, xb', rfl, nT, rfl, exa, hx⟩
      cases exa
      have hx : us[i]? = some xb' := hx
      obtain ⟨t, ht, rt⟩ := rp.get hx
      rw [List.getElem?_map] at ht
      cases hq : bs[i]? with
      | none => rw [hq] at ht; cases ht
      | some b =>
        rw [hq] at ht
        cases ht
        have c2 : Ch K [] H1 (upd H1 T1 (.tup [.int (i : Nat), xb'])) := Ch.new nT
        have eT : (upd H1 T1 (.tup [.int (i : Nat), xb'])) T1 = some (.tup [.int (i : Nat), xb']) := upd_same
        generalize upd H1 T1 (.tup [.int (i : Nat), xb']) = H2 at c2 eT ⊢
        have e2 := c2.up _ _ e1 (by simp)
        have c12 := c1.trans (c2.mono (S' := [l]) (by simp))
        have okb := ok b (List.mem_of_getElem? hq)
        have hlen : (xBods (bs.take i)).length + 1 + (xb b).length ≤ (xBods bs).length + 1 := by
          have e0 : bs = bs.take (i + 1) ++ bs.drop (i + 1) := (List.take_append_drop ..).symm
          have h1 : ∀ (r s : List (List Dd)), (xBods r).length ≤ (xBods (r ++ s)).length := by
            intro r s
            induction s generalizing r with
            | nil => simp
            | cons b s ih =>
              have h3 := ih (r ++ [b])
              rw [List.append_assoc] at h3
              refine Nat.le_trans ?_ h3
              by_cases hr : r = []
              · rw [hr]
                simp [xBods]
              · rw [xBods_snoc _ hr, List.length_append]
                omega
          have h2 := h1 (bs.take (i + 1)) (bs.drop (i + 1))
          rw [List.take_append_drop] at h2
          refine Nat.le_trans ?_ (Nat.succ_le_succ h2)
          rw [take_snoc hq]
          by_cases h0 : bs.take i = []
          · rw [h0]
            simp [xBods]
            omega
          · rw [xBods_snoc _ h0, List.length_append]
            simp
            omega
        refine g_gtup (SqT.of eT) rfl ?_
        walk_at "g"
        have hz : (List.map V.str (ws ++ ww (xBods (bs.take i)))).length < sizeLine := by
          rw [List.length_map, List.length_append, ww_len, sizeLine_eq]
          omega
        refine g_cut (Mid := fun σ' H' => σ' = [some (.ref a), some (.ref l), some (.int (i : Nat)), some xb'] ∧ Ch K [l] H H' ∧ H' l = some (.lst ((ws ++ ww (xBods (bs.take i) ++ (if i = 0 then [] else [wL]))).map V.str))) ?_ ?_
        · walk_at "g"
          by_cases h0 : i = 0
          · subst h0
            walk_at "no"
            exact ⟨rfl, c12, by rw [e2]; simp⟩
          · refine tkT (by simp; omega) ?_
            walk_at "g"
            refine ⟨rfl, c12.trans (Ch.wrL e2 (by simp)), ?_⟩
            rw [upd_same, if_neg h0, ww_app]
            simp [ww, wL]
        · rintro _ H3 ⟨rfl, c3, e3⟩
          walk_at "g"
          obtain ⟨pb, ub, rfl, hpb, rb⟩ := (rt.kt c3.kt).tupI
          rw [encB_mapT] at rb
          refine ⟨pb, ub, _, l, _, rfl, .inr hpb, rb, fun t ht => ?_, e3, ?_, fun H4 c4 e4 => ?_⟩
          · obtain ⟨d, hd, rfl⟩ := List.mem_map.mp ht
            exact ⟨txB_all okb.1 d hd, Nat.le_trans (whB_all hd) okb.2⟩
          · rw [xTs_b, List.length_append, ww_len, List.length_append]
            split <;> simp <;> omega
          · walk_at "g"
            refine ⟨_, _, rfl, c3.trans c4, ?_⟩
            rw [e4, take_snoc hq, xTs_b]
            by_cases h0 : i = 0
            · subst h0
              simp [xBods, ww]
            · have : bs.take i ≠ [] := by
                intro h
                have := congrArg List.length h
                rw [List.length_take] at this
                simp at this
                rcases this with h | h
                · exact h0 h
                · rw [h] at hq; simp at hq
              rw [if_neg h0, xBods_snoc _ this]
              simp [ww]
    · rintro σ H1 ⟨x2, x3, rfl, c1, e1⟩
      rw [lu, List.take_length] at e1
      have hz : (List.map V.str (ws ++ ww (xBods bs))).length < sizeLine := by
        rw [List.length_map, List.length_append, ww_len, sizeLine_eq]
        omega
      walk_at "g"
      refine q _ (c1.trans (Ch.wrL e1 (by simp))) ?_
      rw [upd_same, ww_app]
      simp [ww, wE]
end
end K3
end

section
set_option maxRecDepth 100000
set_option maxHeartbeats 1000000
open Bq L2
/-- one step of a reading; what is left are side goals and places to think -/
local macro_rules | `(tactic| walk_at "g1") => `(tactic| first
  | with_reducible refine' g_seq ?_ | with_reducible refine' g_asg ?_ | with_reducible refine' g_drop ?_ | with_reducible refine' g_ret ?_ | with_reducible refine' g_ifS ?_ | with_reducible refine' g_asgG ?_
  | ((with_reducible refine' g_var ?hv ?_); (case hv => rfl))
  | with_reducible refine' g_c ?_ | with_reducible refine' g_op ?_ | with_reducible refine' g_un ?_ | with_reducible refine' g_I0 ?_ | with_reducible refine' g_U ?_
  | with_reducible refine' g_test ?_ | with_reducible refine' g_tB ?_ | with_reducible refine Exists.intro _ (And.intro rfl ?_) 
  | ((with_reducible refine' g_andP ?ha ?hb ?_); (case ha => intro R q; walk_at "g"; exact q); (case hb => intro R q; walk_at "g"; exact q))
  | ((with_reducible refine' g_orP ?ha ?hb ?_); (case ha => intro R q; walk_at "g"; exact q); (case hb => intro R q; walk_at "g"; exact q))
  | with_reducible refine' g_and ?_ | with_reducible refine' g_or ?_ | with_reducible refine' g_not ?_
  | with_reducible refine' g_andV ?_ | with_reducible refine' g_orV ?_ | with_reducible refine' g_notV ?_ | with_reducible refine' g_if ?_ | with_reducible refine' g_nil ?_ | with_reducible refine' g_cons ?_
  | with_reducible refine' g_tup ?_ | with_reducible refine' g_lst ?_ | with_reducible refine' g_CB ?_ | with_reducible refine' g_Fn ?_ | with_reducible refine' g_next ?_ | with_reducible refine' g_retN ?_
  | with_reducible refine' g_name ?_ | with_reducible refine' g_sub ?_
  | ((with_reducible refine' g_ixL ?hs ?he ?_); (case hs => walk_at "lk"); (case he => walk_at "at"))
  | ((with_reducible refine' g_ixT ?hs ?he ?_); (case hs => walk_at "lk"); (case he => walk_at "at"))
  | ((with_reducible refine' g_setL ?hs ?he ?_); (case hs => walk_at "hp"); (case he => rfl))
  | ((with_reducible refine' g_app ?hs ?hz ?_); (case hs => walk_at "hp"); (case hz => walk_at "sz"))
  | ((with_reducible refine' ⟨_, _, rfl, Or.inl ?hs, ?_⟩); (case hs => walk_at "lk"))
  | ((with_reducible refine' ⟨_, _, rfl, Or.inr ?hs, ?_⟩); (case hs => walk_at "lk"))
  | with_reducible refine' g_BM ?_ | with_reducible refine' g_BM0 ?_ | ((with_reducible refine' g_tyL ?hs ?_); (case hs => walk_at "lk"))
  | with_reducible refine' g_sl ?_ | with_reducible refine' g_noPart ?_ | with_reducible refine' g_part ?_
  | ((with_reducible refine' g_inT ?hs ?fx ?fs ?_); (case hs => walk_at "lk"); (case fx => rfl); (case fs => rfl))
  | with_reducible refine' g_pair ?_ | with_reducible refine' g_pair0 ?_ | with_reducible refine' g_disp ?_
  | with_reducible refine' g_for ?_ | with_reducible refine' g_tupC ?_ | with_reducible refine' g_lstC ?_ | ((with_reducible refine' g_lens ?_)) | with_reducible refine' g_dg ?_ | with_reducible refine' g_lc ?_ | with_reducible refine' g_rng1 ?_ | with_reducible refine' g_ilist ?_ | with_reducible refine' g_itup ?_
  | ((with_reducible refine' ⟨_, _, rfl, ?hd, ?_⟩); (case hd => walk_at "dg"))
  | ((with_reducible refine' g_eqNil ?hs ?hz ?_); (case hs => walk_at "lk"); (case hz => walk_at "lk"))
  | ((with_reducible refine' g_neNil ?hs ?hz ?_); (case hs => walk_at "lk"); (case hz => walk_at "lk"))
  | with_reducible refine Or.inl ⟨_, rfl, ?_⟩
  | with_reducible refine Or.inr ⟨_, rfl, ?_⟩
  | ((with_reducible refine' g_eq ?hs ?_); (case hs => rfl))
  | ((with_reducible refine' g_ne ?hs ?_); (case hs => rfl))
  | ((with_reducible refine' g_I ?hc ?_); (case hc => walk_at "ar")))
/-- arithmetic's side conditions -/
local macro_rules | `(tactic| walk_at "ar") => `(tactic| (first
  | (show (0 : Int) < _; first | omega | decide) | (show (0 : Int) < _ ∧ _; constructor <;> omega) | (show ¬ (_ : Int) = _; omega) | (show (_ : Int) ≠ _ ∧ _; constructor <;> omega)
  | (show (-(2 ^ 64) < _ ∧ _) ∨ _; (first | (left; constructor <;> omega) | (right; constructor <;> omega))) | (show (0 : Int) ≤ _ ∧ _ ∧ _; refine ⟨by omega, by omega, by decide⟩)))
/-- what stands at an index -/
local macro_rules | `(tactic| walk_at "at") => `(tactic| first | rfl | assumption)
/-- what stands at an address -/
local macro_rules | `(tactic| walk_at "hp") => `(tactic| first | assumption | exact upd_same | ((refine' Eq.trans (upd_ne ?hn) ?hm); (case hm => walk_at "hp"); (case hn => walk_at "ne")))
/-- two places are two -/
local macro_rules | `(tactic| walk_at "ne") => `(tactic| first
  | assumption | exact Ne.symm (by assumption)
  | ((refine' ne_of_none ?ha ?hb); (case hb => assumption); (case ha => walk_at "hp")) | ((refine' Ne.symm (ne_of_none ?ha ?hb)); (case hb => assumption); (case ha => walk_at "hp")))
/-- what a dict tells -/
local macro_rules | `(tactic| walk_at "dg") => `(tactic| first | assumption)
/-- a length -/
local macro_rules | `(tactic| walk_at "sz") => `(tactic| first | (show _ ≤ sizeLine; decide) | (show _ < sizeLine; decide) | assumption | exact szlt (by simp) | exact szle (by simp))
/-- a list or tuple that stands -/
local macro_rules | `(tactic| walk_at "lk") => `(tactic| first | assumption | exact SqL.of (by assumption) | exact SqT.of (by assumption) | exact SqL.of upd_same | exact SqT.of upd_same | (refine' FzL.sq ?hm; (case hm => walk_at "fz")))
/-- a list that nobody writes -/
local macro_rules | `(tactic| walk_at "fz") => `(tactic| first | assumption | ((refine' FzL.uw ?hm ?hx); (case hx => walk_at "hp"); (case hm => walk_at "fz")) | ((refine' FzL.nw ?hm ?hx); (case hx => assumption); (case hm => walk_at "fz")))
/-- as far as it goes by itself -/
local macro_rules | `(tactic| walk_at "g") => `(tactic| repeat walk_at "g1")
/-- the body's reading, its places in short -/
local macro_rules | `(tactic| walk_at "go") => `(tactic| ((try dsimp only [cxOf, Cx.nox, Cx.wish]); walk_at "g"))
namespace K3
open PySem PySem.Spec PyProof.Rows L2 Bq
section
variable {P : Program} {w : World} {K : PySem.W.Frag} {mg : Str → Option Value} {base : Heap}
/-- further steps: dicts written, tuples taken apart -/
local macro_rules | `(tactic| walk_at "g1") => `(tactic| first
  | with_reducible refine' g_sdput ?_
  | ((with_reducible refine' g_gtup ?hs ?hl ?_); (case hs => walk_at "lk"); (case hl => rfl))
  | with_reducible refine' g_gcons ?_
  | with_reducible refine' g_gnil ?_
  | with_reducible refine' And.intro (Eq.refl V.non) ?_
  | with_reducible refine' g_isN ?_
  | ((with_reducible refine' g_chainR ?ha ?hb ?hc ?_); (case ha => intro R q; walk_at "g"; exact q); (case hb => intro R q; walk_at "g"; exact q); (case hc => intro R q; walk_at "g"; exact q))
  | with_reducible refine' g_notN ?_)
/-- what the law's dict tells -/
local macro_rules | `(tactic| walk_at "dg") => `(tactic| first
  | assumption
  | exact LH.gfuns (by assumption)
  | exact LH.gsaid (by assumption)
  | exact LH.gcells (by assumption)
  | exact LH.gfuel (by assumption)
  | exact LH.gend (by assumption)
  | exact LH.gcalls (by assumption)
  | exact LH.gnames (by assumption)
  | exact LH.gwaits (by assumption)
  | exact LH.gworth (by assumption)
  | exact LH.glook (by assumption))
/-- a test that fails, that holds, by itself -/
local macro_rules | `(tactic| walk_at "no") => `(tactic| ((refine tkF rfl ?_); walk_at "g"))
local macro_rules | `(tactic| walk_at "yes") => `(tactic| ((refine tkT rfl ?_); walk_at "g"))
local macro_rules | `(tactic| walk_at "g1") => `(tactic| first
  | with_reducible refine' g_catS ?_
  | with_reducible refine' g_mulS ?_
  | with_reducible refine' g_rev ?_)
def spPartText (K : PySem.W.Frag) (n : Nat) : Sp := fun vs H Q _ => ∃ v p, vs = [v] ∧ Rep K H v (encP p) ∧ txP p ∧ szP p ≤ 200 ∧ dpP p ≤ n ∧ ∀ H', Ch K [] H H' → Q (.str (jn (ww (xp p)))) H'
theorem part_text_step (C : Cn w K mg base) (k : Nat) (hk : 2 ≤ k) (n : Nat) {spx : Sp} (F_law_part_text : Fn P w K mg base CX0 k "_law_part_text" ["_law_part_here"] spx)
    (hsp : ∀ m, n = m + 1 → ∀ vs H Q E, spPartText K m vs H Q E → spx vs H Q E) : Fn P w K mg base CX0 (k + 1) "_law_part_text" ["_law_part_here"] (spPartText K n) := C.f_law_part_text fun fd F => by
  have F_law_inner : Fn P w K mg base CX0 2 "_law_inner" ["_law_thing"] (spInner K) := fn_inner C
  refine F.ok (CX := CX0) sc_law_part_text (fun vs H Q E h => ?_) (fun cdv A outer s H vs Q E hr h => ?_)
  · obtain ⟨v, p, rfl, _⟩ := h
    rfl
  · obtain ⟨v, p, rfl, rep, tx, sz, dp, q⟩ := h
    refine ⟨_, PSs.nox (pss_cons (ps_if (pt_cmpR op_in_seq (pe_ix ix_tup (pv 0) pe_int (fun _ _ => rfl)) (pe_tupC (pa_cons pe_str (pa_cons pe_str pa_nil))) (by rfl)) (pss_one (ps_ret (pe_op op_catS (pe_ix ix_list (pe_lstC (pa_cons pe_str (pa_cons pe_str pa_nil))) (pe_callTy call_int1 (by rfl) (C.m_int) (by decide +kernel) (pa_cons (pe_cmpR op_eq (pe_ix ix_tup (pv 0) pe_int (fun _ _ => rfl)) pe_str (nomark _)) pa_nil)) (fun _ _ => rfl)) (pe_callTy call_str_int (by rfl) (C.m_str) (by decide +kernel) (pa_cons (pe_ix ix_tup (pv 0) pe_int (fun _ _ => rfl)) pa_nil))))) pss_nil)
      (pss_cons (ps_set (i := 1) sc_law_part_text.nd rfl (Or.inl rfl) (pe_ix ix_tup (pv 0) pe_int (fun _ _ => rfl)))
      (Evl.pss_cut (ps_if (pt_cmpR op_eq (pe_ix ix_tup (pv 0) pe_int (fun _ _ => rfl)) pe_str (nomark _)) (pss_one (ps_set (i := 1) sc_law_part_text.nd rfl (Or.inl rfl) (pe_op op_catS (pe_op op_catS (pe_op op_catS pe_str (pe_callTy call_str_int (by rfl) (C.m_str) (by decide +kernel) (pa_cons (pe_ix ix_tup (pv 0) pe_int (fun _ _ => rfl)) pa_nil))) pe_str) (pe_callTy call_str_int (by rfl) (C.m_str) (by decide +kernel) (pa_cons (pe_callB call_len_seq (by rfl) (C.m_len) PySem.boot_len (pa_cons (pe_ix ix_tup (pv 0) pe_int (fun _ _ => rfl)) pa_nil)) pa_nil))))) pss_nil)
      (pss_cons (ps_for PassesOwn.never rfl (pi_list (pe_fn F_law_inner (rmm hr) (by rfl) pass0 (pa_cons (pv 0) pa_nil))) (pg_name (i := 2) sc_law_part_text.nd rfl (Or.inl rfl)) (pss_one (ps_set (i := 1) sc_law_part_text.nd rfl (Or.inl rfl) (pe_op op_catS (pe_op op_catS (pv 1) pe_str) (pe_fn F_law_part_text (rmm hr) (by rfl) pass0 (pa_cons (pv 2) pa_nil))))))
      (pss_one (ps_ret (pv 1))))))), ?_⟩
    have rep0 : Rep K H v (encT (.p p)) := rep
    obtain ⟨a, us, rfl, hS, rs⟩ := thing1 rep0
    have h0 := atI_nat (j := 0) (List.getElem?_cons_zero (a := V.str (wdT (.p p))) (l := us))
    walk_at "go"
    refine ⟨szle (by simp), fun l1 H1 n1 e1 c1 => ?_⟩
    have hS1 := c1.sqT hS
    walk_at "g"
    by_cases ho : isOp p
    · have hb := inN_op ho
      refine tkF hb ?_
      have okH := okW_hd tx ho
      have lH := hdP_len p
      walk_at "g"
      refine g_cut (Mid := fun σ' H' => σ' = [some (.ref a), some (.str (jn (ww (hdP p)))), none] ∧ H' = H1) ?_ ?_
      · walk_at "g"
        refine iteB (fun h => ?_) (fun h => ?_)
        · obtain ⟨f, ps, rfl⟩ : ∃ f ps, p = .call f ps := by
            cases p with
            | call f ps => exact ⟨f, ps, rfl⟩
            | _ => rw [wd_call (t := .p _) (by trivial)] at h; cases h
          obtain ⟨v1, vs2, rfl, r1, rs2⟩ := rs.consI
          obtain ⟨v2, vs3, rfl, r2, _⟩ := rs2.consI
          obtain rfl := r1.intI
          obtain ⟨b, us, rfl, hb2, rus⟩ := r2.tupI
          have hb1 := c1.sqT hb2
          have h1 : atI (V.str (wdT (.p (.call f ps))) :: V.int f :: V.ref b :: vs3) 1 = some (V.int f) := atI_nat (j := 1) rfl
          have h2 : atI (V.str (wdT (.p (.call f ps))) :: V.int f :: V.ref b :: vs3) 2 = some (V.ref b) := atI_nat (j := 2) rfl
          have f8 := tx.1
          have l4 := tx.2.1
          walk_at "g"
          refine ⟨log_ok (by omega) (by omega), ?_⟩
          walk_at "g"
          have w1 := wlen (okS_nat (n := f) (by omega))
          have w2 := wlen (okS_nat (n := ps.length) (by omega))
          have wc := len_call
          have w3 := len_sp
          have lu : us.length = ps.length := by rw [rus.len, encPs_len]
          refine ⟨by omega, ?_⟩
          walk_at "g"
          refine ⟨by rw [S_len]; omega, ?_⟩
          walk_at "g"
          rw [lu]
          refine ⟨log_ok (by omega) (by omega), ?_⟩
          walk_at "g"
          refine ⟨by rw [S_len, S_len]; omega, ?_⟩
          walk_at "g"
          refine ⟨?_, rfl⟩
          show _ = [_, some (V.str (jn ["call", wn f, wn ps.length])), _]
          rw [jn_call]
          rfl
        · have e : jn (ww (hdP p)) = wdT (.p p) := by
            cases p with
            | num i => exact ho.elim
            | name i => exact ho.elim
            | call f ps => cases h
            | _ => exact jn_one _
          rw [e]
          walk_at "g"
          exact ⟨rfl, rfl⟩
      · rintro _ _ ⟨rfl, rfl⟩
        walk_at "g"
        refine ⟨_, .p p, rfl, rep0.kt c1.kt, fun H2 l us2 c2 n2 e2 r2 => ?_⟩
        walk_at "g"
        have hl : us2.length = (innerP p).length := by rw [r2.len]; exact encPs_len _
        have c12 := c1.trans c2
        have szi := szP_inner p
        have dpi := dpP_inner ho
        have txi := txP_inner tx
        refine ⟨⟨_, SqL.of e2⟩, for_list (K := K) (a := l) (xs := us2) (fun i σ H' => ∃ x2, σ = [some (.ref a), some (.str (jn (ww (hdP p ++ xps ((innerP p).take i))))), x2] ∧ Ch K [] H2 H') ⟨none, by rw [List.take_zero]; simp [xps], Ch.refl⟩ (fun i σ H' _ ⟨_, _, c⟩ => c.sqL (SqL.of e2) (by simp)) ?_ ?_⟩
        · rintro i y σ H3 hi ⟨x2, rfl, c3⟩
          obtain ⟨t, ht, rt⟩ := r2.get hi
          obtain ⟨q1, hq1, rfl⟩ := encPs_get ht
          have hq1 : (innerP p)[i]? = some q1 := hq1
          have tq := txPs_get txi hq1
          have zq := szPs_get hq1
          have dq := dpPs_get hq1
          have ok1 : okW (hdP p ++ xps ((innerP p).take i)) := okW_app okH (okW_ps (txPs_take i txi))
          have ln1 := jn_len ok1
          have ln2 := xps_len ((innerP p).take i)
          have ln3 := szPs_take (innerP p) i
          have ln4 := jn_len (okW_p tq)
          have ln5 := xp_len q1
          rw [List.length_append] at ln1
          have w3 := len_sp
          walk_at "g"
          refine ⟨by omega, ?_⟩
          walk_at "g"
          refine hsp (n - 1) (by omega) _ _ _ _ ⟨y, q1, rfl, rt.kt c3.kt, tq, by omega, by omega, fun H4 c4 => ?_⟩
          walk_at "g"
          refine ⟨by rw [S_len]; omega, ?_⟩
          walk_at "g"
          refine ⟨some y, ?_, c3.trans c4⟩
          rw [take_snoc hq1, xps_app, ← List.append_assoc, ww_app _ (xps [q1]), show xps [q1] = xp q1 from by simp [xps], jn_app (ww_ne (by simp [hdP_ne ho])) (ww_ne (xp_ne q1)), ← S_assoc]
          rfl
        · rintro σ H3 ⟨x2, rfl, c3⟩
          walk_at "g"
          have := q H3 (c12.trans c3)
          rw [hl, List.take_length, ← hdP_xp ho]
          exact this
    · have hb := inN_no ho
      refine tkT hb ?_
      walk_at "g"
      refine ⟨szle (by simp), fun l2 H2 n2 e2 c2 => ?_⟩
      have hS2 := c2.sqT hS1
      have q1 := q H2 (c1.trans c2)
      cases p with
      | num i =>
        obtain ⟨v1, vs2, rfl, r1, rs2⟩ := rs.consI
        obtain rfl := r1.intI
        have h1 : atI (V.str (wdT (.p (.num i))) :: V.int i :: vs2) 1 = some (V.int i) := atI_nat (j := 1) rfl
        have hx : atI [V.str "", V.str "n"] (if decide (V.str (wdT (.p (.num i))) = V.str "name") = true then 1 else 0) = some (V.str "") := atI_nat (j := 0) rfl
        have w1 := wlen (okS_num tx.1 tx.2)
        walk_at "g"
        refine ⟨log_ok tx.1 tx.2, ?_⟩
        walk_at "g"
        refine ⟨by rw [show ("" : Str).length = 0 from by decide +kernel]; omega, ?_⟩
        rw [S_nilL]
        exact q1
      | name i =>
        obtain ⟨v1, vs2, rfl, r1, rs2⟩ := rs.consI
        obtain rfl := r1.intI
        have h1 : atI (V.str (wdT (.p (.name i))) :: V.int i :: vs2) 1 = some (V.int i) := atI_nat (j := 1) rfl
        have hx : atI [V.str "", V.str "n"] (if decide (V.str (wdT (.p (.name i))) = V.str "name") = true then 1 else 0) = some (V.str "n") := atI_nat (j := 1) rfl
        have i8 : i < 8 := tx
        have w1 := wlen (okS_nat (n := i) (by omega))
        walk_at "g"
        refine ⟨log_ok (by omega) (by omega), ?_⟩
        walk_at "g"
        refine ⟨by rw [show ("n" : Str).length = 1 from by decide +kernel]; omega, ?_⟩
        exact q1
      | _ => exact (ho trivial).elim
theorem fn_part_text (C : Cn w K mg base) : ∀ n : Nat, Fn P w K mg base CX0 (n + 3) "_law_part_text" ["_law_part_here"] (spPartText K n)
  | 0 => part_text_step C 2 (by decide) 0 (spx := fun _ _ _ _ => False) (C.f_law_part_text fun fd F => ⟨fun _ _ _ _ h => h.elim, fun _ _ _ _ _ _ _ _ _ _ _ _ _ h => h.elim⟩) fun m h => by omega
  | n + 1 => part_text_step C (n + 3) (by omega) (n + 1) (fn_part_text C n) fun m e _ _ _ _ h => by
    have : m = n := by omega
    rw [← this]
    exact h
end
end K3
end

section
set_option maxRecDepth 100000
set_option maxHeartbeats 1000000
namespace Bq
open PySem PySem.Spec PyProof.Rows L2
/-! ### str of nested tuples: some text, of a length that is bounded -/
/-- the value shows as a text of at most n signs, whatever is being shown -/
def RB (h : Heap) (d n : Nat) (x : Value) : Prop := ∀ (prog : Program) (w : World) (b : Nat), b + n ≤ sizeLine → ∀ (A : Around) (E : Value → Shared → Prop) (s : Shared) (Q : Str → Shared → Prop), A.units + d < cLine → s.heap = h →
  (∀ (t : Str) (tk : Nat), t.length ≤ n → Q t { s with toks := tk }) → wpAny (model prog w) A (pyReprUnder b x) Q E s
inductive RBs (h : Heap) (d : Nat) : List Value → Nat → Prop where
  | nil : RBs h d [] 0
  | cons {x l n m} (a : RB h d n x) (r : RBs h d l m) : RBs h d (x :: l) (n + 2 + m)
section
variable {prog : Program} {w : World} {h : Heap} {d n m : Nat} {x : Value} {l : List Value}
theorem RB.is {t : Str} (i : ∀ prog w, ReprIs prog w x t) (hn : t.length ≤ n) : RB h d n x := by
  intro prog w b hb A E s Q hu hh q
  exact i prog w b (by omega) A E s Q fun tk => q t tk hn
theorem RB.le {k : Nat} (a : RB h d n x) (hk : n ≤ k) : RB h d k x := by
  intro prog w b hb A E s Q hu hh q
  exact a prog w b (by omega) A E s Q hu hh fun t tk ht => q t tk (by omega)
theorem RB.deep {e : Nat} (a : RB h d n x) (hk : d ≤ e) : RB h e n x := by
  intro prog w b hb A E s Q hu hh q
  exact a prog w b hb A E s Q (by omega) hh q
theorem RBs.deep {e : Nat} (a : RBs h d l m) (hk : d ≤ e) : RBs h e l m := by
  induction a with
  | nil => exact .nil
  | cons a r ih => exact .cons (a.deep hk) ih
theorem tupFoldB {A : Around} {E : Value → Shared → Prop} (hu : A.units + d < cLine) : ∀ {l : List Value} {m : Nat}, RBs h d l m → ∀ (acc : Array Str) (k : Nat) (s : Shared) (Q : Array Str × Nat → Shared → Prop),
    k + m ≤ sizeLine → s.heap = h → (∀ (ts : List Str) (tk : Nat), ts.length = l.length → piled ts ≤ m → Q (acc ++ ts.toArray, k + piled ts) { s with toks := tk }) → wpAny (model prog w) A (forIn l (acc, k) tupBody) Q E s := by
  intro l m r
  induction r with
  | nil =>
    intro acc k s Q hk hh q
    have := q [] s.toks rfl (Nat.le_refl _)
    simp only [List.forIn_nil]
    refine wpAny_pure ?_
    simpa [piled] using this
  | @cons x l n m a r ih =>
    intro acc k s Q hk hh q
    rw [List.forIn_cons]
    refine wpAny_bind ?_
    show wpAny _ _ (tupBody x (acc, k)) _ _ _
    refine wpAny_bind (a prog w (k + 1) (by omega) A E s _ hu hh fun t tk ht => wpAny_pure ?_)
    refine ih (acc.push t) (k + (t.length + 2)) _ Q (by omega) hh fun ts tk2 hl hp => ?_
    have := q (t :: ts) tk2 (by simp [hl]) (by simp only [piled, List.map_cons, List.sum_cons] at hp ⊢; omega)
    have e1 : acc.push t ++ ts.toArray = acc ++ (t :: ts).toArray := by
      apply Array.ext'
      simp
    have e2 : k + (t.length + 2) + piled ts = k + piled (t :: ts) := by
      simp only [piled, List.map_cons, List.sum_cons]
      omega
    rw [e1, e2]
    exact this
theorem tupleRestB {A : Around} {E : Value → Shared → Prop} {s : Shared} {a : Addr} {o : Obj} {items : Array Value} {k b : Nat} {Q : Fin → Shared → Prop} (hu : A.units + d < cLine) (ho : s.heap.get? a = some o) (hd : o.data = .seq items k)
    (r : RBs s.heap d items.toList m) (hb : b + (m + 2) ≤ sizeLine) (q : ∀ (t : Str) (u : Tok) (tk : Nat), t.length ≤ m + 2 → Q (.done (.ret (.str t u))) { s with toks := tk }) :
    wpAny (model prog w) A (tupleReprRest b (.ref a)) Q E s := by
  refine wpAny_bind (wpAny_tupleItemsOf ho hd ?_)
  refine wpAny_bind ?_
  rw [← Array.forIn_toList]
  refine tupFoldB hu r #[] b s _ (by omega) rfl fun ts tk hl hp => ?_
  have hf := fmt_text ts
  have e : (Str.ofString "(" ++ (Str.ofString ", ").join ((#[] : Array Str) ++ ts.toArray).toList ++ Str.ofString (if (items.size == 1) = true then ",)" else ")")) = tupleText ts := by
    have e1 : items.size = ts.length := by rw [hl, Array.length_toList]
    rw [e1]
    simp [tupleText]
  refine wpAny_bind (wpAny_mkStr ?_ ?_)
  · rw [e]
    refine wpAny_pure ?_
    exact q _ _ _ (by omega)
  · rw [e]
    omega
theorem tupleAtB {A : Around} {E : Value → Shared → Prop} {s : Shared} {a : Addr} {o : Obj} {items : Array Value} {k b : Nat} {Q : Fin → Shared → Prop} (hu : A.units + d < cLine) (ho : s.heap.get? a = some o) (hd : o.data = .seq items k)
    (r : RBs s.heap d items.toList m) (hb : b + (m + 5) ≤ sizeLine) (q : ∀ (t : Str) (u : Tok) (tk : Nat), t.length ≤ m + 5 → Q (.done (.ret (.str t u))) { s with toks := tk }) :
    wpAny (model prog w) A (Builtin.tupleReprAt b { pos := [.ref a] }) Q E s := by
  rw [tuple_repr_tree]
  refine wpAny_bind (fmt_underWay fun c => ?_)
  cases c with
  | true =>
    refine W.KFB.if_so rfl (wpAny_bind (wpAny_rule (wpAny_bind (wpAny_mkStr (wpAny_pure ?_) ?_))))
    · have := fmt_way
      exact q _ _ _ (by omega)
    · have := fmt_way
      omega
  | false => exact W.KFB.if_not rfl (tupleRestB hu ho hd r (by omega) fun t u tk ht => q t u tk (by omega))
theorem RB.tup {a : Addr} {o : Obj} {items : Array Value} {k : Nat} (ho : h.get? a = some o) (hc : o.cls = .type "tuple") (hd : o.data = .seq items k) (r : RBs h d items.toList m) : RB h (d + 1) (m + 5) (.ref a) := by
  intro prog w b hb A E s Q hu hh q
  subst hh
  have ty : s.TypeIs (.ref a) "tuple" := ⟨o, ho, hc⟩
  refine wpAny_pyReprUnder_ref (by omega) ?_
  refine wpAny_pyReprObjUnder_twin ty F.slot_tuple_repr rfl (by omega) ?_
  refine call_twin_own (F.quiet_tuple_repr_under _) F.entry_tuple_repr_under F.check_tuple_repr_under ty F.slot_tuple_repr (F.args_tuple_repr_1 _) ?_
  refine wpOwn_of_wpAny ?_
  refine tupleAtB (by rw [units_under_tuple_repr_under]; omega) ho hd r hb fun t u tk ht => ?_
  exact ⟨⟨t, u, rfl⟩, t, u, rfl, q t tk ht⟩
/-- str of a tuple -/
theorem strB {A : Around} {E : Value → Shared → Prop} {s : Shared} {a : Addr} {o : Obj} {items : Array Value} {k : Nat} {Q : Value → Shared → Prop} (ho : s.heap.get? a = some o) (hc : o.cls = .type "tuple") (hd : o.data = .seq items k)
    (r : RBs s.heap d items.toList m) (hu : A.units + (d + 6) < cLine) (hb : m + 5 ≤ sizeLine) (q : ∀ (t : Str) (u : Tok) (tk : Nat), t.length ≤ m + 5 → Q (.str t u) { s with toks := tk }) :
    wpAny (model prog w) A (call (.type "str") [.ref a]) Q E s := by
  have ty : s.TypeIs (.ref a) "tuple" := ⟨o, ho, hc⟩
  have M : Meets (Builtin.«str.__new__» { pos := [.type "str", .ref a] }) (fun A2 R s2 => A2.units = A.in1.units ∧ s2.heap = s.heap ∧ ∀ (t : Str) (u : Tok) (tk : Nat), t.length ≤ m + 5 → R (.ok (.ret (.str t u))) { s2 with toks := tk }) := by
    refine meets_str_new fun prog2 w2 A2 R s2 ⟨e1, e2, q2⟩ => ?_
    have ho2 : s2.heap.get? a = some o := by rw [e2]; exact ho
    have ty2 : s2.TypeIs (.ref a) "tuple" := ⟨o, ho2, hc⟩
    have e3 : A2.in1.in1.units = A.units + 3 := by
      show A2.units + 1 + 1 = _
      rw [e1]
    have e4 : A2.in1.in1.units = A2.in1.units + 1 := rfl
    refine wpAny_strOf_slot rfl (by omega) ty2 F.slot_tuple_str F.slot_tuple_repr ?_
    refine wpAny_call (codeAny_call_builtin_own (Code.quiet_builtin _ (by decide +kernel)) F.entry_tuple_repr ?_)
    refine F.slot_tuple_repr.check _ _ _ _ _ _ _ _ ty2 (F.args_tuple_repr_1 _) (wpOwn_of_wpAny ?_)
    refine tupleAtB (b := 0) (d := d) (m := m) ?_ ho2 hd (by rw [e2]; exact r) (by omega) fun t u tk ht => ?_
    · rw [units_under_tuple_repr]
      omega
    · exact ⟨t, u, rfl, q2 t u tk ht⟩
  refine callType_new F.called_str (by decide) (F.typeCall_str_1 _) (F.newCall_str_1 _) (fun obj => F.args_object_init_2 obj _) F.entry_str_new M ⟨rfl, rfl, fun t u tk ht => ?_⟩
  exact ⟨typeIs_str _ _ _, q t u tk ht⟩
end
/-! data that are texts, ints and tuples of such -/
mutual
def okT : T → Prop
  | .int i => i.natAbs.log2 < 1920 ∧ (Str.ofString (toString i)).length ≤ 8
  | .str y => (reprText y).length ≤ 12
  | .tup ts => okTs ts
def okTs : List T → Prop
  | [] => True
  | t :: r => okT t ∧ okTs r
end
mutual
/-- how many signs it shows by, at most -/
def sgT : T → Nat
  | .int _ => 8
  | .str y => 12
  | .tup ts => sgTs ts + 5
def sgTs : List T → Nat
  | [] => 0
  | t :: r => sgT t + 2 + sgTs r
end
section
variable {X : Cx} {pins : List (Addr × Obj)} {σ : L2.St} {H : Hp} {s : Shared}
mutual
theorem RB.rep (I : L2.Inv X pins σ H s) : ∀ (t : T) (v : V) (u : Value), Rep X.K H v t → L2.RelV v u → okT t → RB s.heap (dpT t) (sgT t) u
  | .int i, v, u, r, rv, ok => by
    obtain rfl := r.intI
    obtain ⟨t, rfl⟩ := rv
    exact (RB.is (n := 8) (fun _ _ => ReprIs.int t ok.1) ok.2).deep (Nat.zero_le _)
  | .str y, v, u, r, rv, ok => by
    obtain rfl := r.strI
    obtain ⟨t, rfl⟩ := rv
    exact (RB.is (n := 12) (fun _ _ => ReprIs.str y t (Nat.le_trans ok (by decide))) ok).deep (Nat.zero_le _)
  | .tup ts, v, u, r, rv, ok => by
    obtain ⟨a, vs, rfl, hS, rs⟩ := r.tupI
    cases rv
    obtain ⟨its, rvs, ⟨o, ho, hc, n, hd⟩, _⟩ := I.tuple hS
    have hr := RBs.rep I ts vs its rs rvs ok
    have e : dpT (.tup ts) = dpTs ts + 1 := Nat.add_comm ..
    rw [e]
    exact RB.tup ho hc hd hr
theorem RBs.rep (I : L2.Inv X pins σ H s) : ∀ (ts : List T) (vs : List V) (us : List Value), Reps X.K H vs ts → Vals vs us → okTs ts → RBs s.heap (dpTs ts) us (sgTs ts)
  | [], vs, us, r, rv, ok => by
    obtain rfl := r.nilI
    cases rv
    exact .nil
  | t :: ts, vs, us, r, rv, ok => by
    obtain ⟨v, vs2, rfl, r1, r2⟩ := r.consI
    cases rv with
    | cons rv1 rv2 =>
      have h1 := RB.rep I t v _ r1 rv1 ok.1
      have h2 := RBs.rep I ts vs2 _ r2 rv2 ok.2
      exact .cons (h1.deep (Nat.le_max_left ..)) (h2.deep (Nat.le_max_right ..))
end
end
/-- str of an int; of a tuple of data: some text -/
def rStrA (K : PySem.W.Frag) : List V → Hp → VK → Prop := fun xs H Q => (∃ i : Int, xs = [.int i] ∧ i.natAbs.log2 < 1920 ∧ Q (.str (Str.ofString (toString i))) H) ∨
  ∃ v ts, xs = [v] ∧ Rep K H v (.tup ts) ∧ okTs ts ∧ sgTs ts + 5 ≤ 100000 ∧ dpTs ts ≤ 190 ∧ ∀ m : Str, m.length ≤ sgTs ts + 5 → Q (.str m) H
theorem call_strA {X : Cx} (hr : Room 1 X.A) : CallR X (.type "str") (rStrA X.K) := by
  intro pins s σ H xs us Q I rs h
  rcases h with h | ⟨v, ts, rfl, rep, ok, sz, dp, q⟩
  · exact call_str_int pins s σ H xs us Q I rs h
  · obtain ⟨a, vs, rfl, hS, rp⟩ := rep.tupI
    cases rs with
    | cons r1 r2 =>
      cases r2
      cases r1
      obtain ⟨its, rvs, ⟨o, ho, hc, n, hd⟩, _⟩ := I.tuple hS
      have hrr := RBs.rep I ts vs _ rp rvs ok
      have un := hr.un
      exact strB ho hc hd hrr (by omega) (Nat.le_trans sz (by decide)) fun t u tk ht => ⟨.str t, H, I.tok _, ⟨_, rfl⟩, q t ht⟩
end Bq
end

section
set_option maxRecDepth 100000
set_option maxHeartbeats 1000000
open Bq L2
/-- one step of a reading; what is left are side goals and places to think -/
local macro_rules | `(tactic| walk_at "g1") => `(tactic| first
  | with_reducible refine' g_seq ?_ | with_reducible refine' g_asg ?_ | with_reducible refine' g_drop ?_ | with_reducible refine' g_ret ?_ | with_reducible refine' g_ifS ?_ | with_reducible refine' g_asgG ?_
  | ((with_reducible refine' g_var ?hv ?_); (case hv => rfl))
  | with_reducible refine' g_c ?_ | with_reducible refine' g_op ?_ | with_reducible refine' g_un ?_ | with_reducible refine' g_I0 ?_ | with_reducible refine' g_U ?_
  | with_reducible refine' g_test ?_ | with_reducible refine' g_tB ?_ | with_reducible refine Exists.intro _ (And.intro rfl ?_) 
  | ((with_reducible refine' g_andP ?ha ?hb ?_); (case ha => intro R q; walk_at "g"; exact q); (case hb => intro R q; walk_at "g"; exact q))
  | ((with_reducible refine' g_orP ?ha ?hb ?_); (case ha => intro R q; walk_at "g"; exact q); (case hb => intro R q; walk_at "g"; exact q))
  | with_reducible refine' g_and ?_ | with_reducible refine' g_or ?_ | with_reducible refine' g_not ?_
  | with_reducible refine' g_andV ?_ | with_reducible refine' g_orV ?_ | with_reducible refine' g_notV ?_ | with_reducible refine' g_if ?_ | with_reducible refine' g_nil ?_ | with_reducible refine' g_cons ?_
  | with_reducible refine' g_tup ?_ | with_reducible refine' g_lst ?_ | with_reducible refine' g_CB ?_ | with_reducible refine' g_Fn ?_ | with_reducible refine' g_next ?_ | with_reducible refine' g_retN ?_
  | with_reducible refine' g_name ?_ | with_reducible refine' g_sub ?_
  | ((with_reducible refine' g_ixL ?hs ?he ?_); (case hs => walk_at "lk"); (case he => walk_at "at"))
  | ((with_reducible refine' g_ixT ?hs ?he ?_); (case hs => walk_at "lk"); (case he => walk_at "at"))
  | ((with_reducible refine' g_setL ?hs ?he ?_); (case hs => walk_at "hp"); (case he => rfl))
  | ((with_reducible refine' g_app ?hs ?hz ?_); (case hs => walk_at "hp"); (case hz => walk_at "sz"))
  | ((with_reducible refine' ⟨_, _, rfl, Or.inl ?hs, ?_⟩); (case hs => walk_at "lk"))
  | ((with_reducible refine' ⟨_, _, rfl, Or.inr ?hs, ?_⟩); (case hs => walk_at "lk"))
  | with_reducible refine' g_BM ?_ | with_reducible refine' g_BM0 ?_ | ((with_reducible refine' g_tyL ?hs ?_); (case hs => walk_at "lk"))
  | with_reducible refine' g_sl ?_ | with_reducible refine' g_noPart ?_ | with_reducible refine' g_part ?_
  | ((with_reducible refine' g_inT ?hs ?fx ?fs ?_); (case hs => walk_at "lk"); (case fx => rfl); (case fs => rfl))
  | with_reducible refine' g_pair ?_ | with_reducible refine' g_pair0 ?_ | with_reducible refine' g_disp ?_
  | with_reducible refine' g_for ?_ | with_reducible refine' g_tupC ?_ | with_reducible refine' g_lstC ?_ | ((with_reducible refine' g_lens ?_)) | with_reducible refine' g_dg ?_ | with_reducible refine' g_lc ?_ | with_reducible refine' g_rng1 ?_ | with_reducible refine' g_ilist ?_ | with_reducible refine' g_itup ?_
  | ((with_reducible refine' ⟨_, _, rfl, ?hd, ?_⟩); (case hd => walk_at "dg"))
  | ((with_reducible refine' g_eqNil ?hs ?hz ?_); (case hs => walk_at "lk"); (case hz => walk_at "lk"))
  | ((with_reducible refine' g_neNil ?hs ?hz ?_); (case hs => walk_at "lk"); (case hz => walk_at "lk"))
  | with_reducible refine Or.inl ⟨_, rfl, ?_⟩
  | with_reducible refine Or.inr ⟨_, rfl, ?_⟩
  | ((with_reducible refine' g_eq ?hs ?_); (case hs => rfl))
  | ((with_reducible refine' g_ne ?hs ?_); (case hs => rfl))
  | ((with_reducible refine' g_I ?hc ?_); (case hc => walk_at "ar")))
/-- arithmetic's side conditions -/
local macro_rules | `(tactic| walk_at "ar") => `(tactic| (first
  | (show (0 : Int) < _; first | omega | decide) | (show (0 : Int) < _ ∧ _; constructor <;> omega) | (show ¬ (_ : Int) = _; omega) | (show (_ : Int) ≠ _ ∧ _; constructor <;> omega)
  | (show (-(2 ^ 64) < _ ∧ _) ∨ _; (first | (left; constructor <;> omega) | (right; constructor <;> omega))) | (show (0 : Int) ≤ _ ∧ _ ∧ _; refine ⟨by omega, by omega, by decide⟩)))
/-- what stands at an index -/
local macro_rules | `(tactic| walk_at "at") => `(tactic| first | rfl | assumption)
/-- what stands at an address -/
local macro_rules | `(tactic| walk_at "hp") => `(tactic| first | assumption | exact upd_same | ((refine' Eq.trans (upd_ne ?hn) ?hm); (case hm => walk_at "hp"); (case hn => walk_at "ne")))
/-- two places are two -/
local macro_rules | `(tactic| walk_at "ne") => `(tactic| first
  | assumption | exact Ne.symm (by assumption)
  | ((refine' ne_of_none ?ha ?hb); (case hb => assumption); (case ha => walk_at "hp")) | ((refine' Ne.symm (ne_of_none ?ha ?hb)); (case hb => assumption); (case ha => walk_at "hp")))
/-- what a dict tells -/
local macro_rules | `(tactic| walk_at "dg") => `(tactic| first | assumption)
/-- a length -/
local macro_rules | `(tactic| walk_at "sz") => `(tactic| first | (show _ ≤ sizeLine; decide) | (show _ < sizeLine; decide) | assumption | exact szlt (by simp) | exact szle (by simp))
/-- a list or tuple that stands -/
local macro_rules | `(tactic| walk_at "lk") => `(tactic| first | assumption | exact SqL.of (by assumption) | exact SqT.of (by assumption) | exact SqL.of upd_same | exact SqT.of upd_same | (refine' FzL.sq ?hm; (case hm => walk_at "fz")))
/-- a list that nobody writes -/
local macro_rules | `(tactic| walk_at "fz") => `(tactic| first | assumption | ((refine' FzL.uw ?hm ?hx); (case hx => walk_at "hp"); (case hm => walk_at "fz")) | ((refine' FzL.nw ?hm ?hx); (case hx => assumption); (case hm => walk_at "fz")))
/-- as far as it goes by itself -/
local macro_rules | `(tactic| walk_at "g") => `(tactic| repeat walk_at "g1")
/-- the body's reading, its places in short -/
local macro_rules | `(tactic| walk_at "go") => `(tactic| ((try dsimp only [cxOf, Cx.nox, Cx.wish]); walk_at "g"))
namespace K3
open PySem PySem.Spec PyProof.Rows L2 Bq
section
variable {P : Program} {w : World} {K : PySem.W.Frag} {mg : Str → Option Value} {base : Heap}
/-- further steps: dicts written, tuples taken apart -/
local macro_rules | `(tactic| walk_at "g1") => `(tactic| first
  | with_reducible refine' g_sdput ?_
  | ((with_reducible refine' g_gtup ?hs ?hl ?_); (case hs => walk_at "lk"); (case hl => rfl))
  | with_reducible refine' g_gcons ?_
  | with_reducible refine' g_gnil ?_
  | with_reducible refine' And.intro (Eq.refl V.non) ?_
  | with_reducible refine' g_isN ?_
  | ((with_reducible refine' g_chainR ?ha ?hb ?hc ?_); (case ha => intro R q; walk_at "g"; exact q); (case hb => intro R q; walk_at "g"; exact q); (case hc => intro R q; walk_at "g"; exact q))
  | with_reducible refine' g_notN ?_)
/-- what the law's dict tells -/
local macro_rules | `(tactic| walk_at "dg") => `(tactic| first
  | assumption
  | exact LH.gfuns (by assumption)
  | exact LH.gsaid (by assumption)
  | exact LH.gcells (by assumption)
  | exact LH.gfuel (by assumption)
  | exact LH.gend (by assumption)
  | exact LH.gcalls (by assumption)
  | exact LH.gnames (by assumption)
  | exact LH.gwaits (by assumption)
  | exact LH.gworth (by assumption)
  | exact LH.glook (by assumption))
/-- a test that fails, that holds, by itself -/
local macro_rules | `(tactic| walk_at "no") => `(tactic| ((refine tkF rfl ?_); walk_at "g"))
local macro_rules | `(tactic| walk_at "yes") => `(tactic| ((refine tkT rfl ?_); walk_at "g"))
local macro_rules | `(tactic| walk_at "g1") => `(tactic| first
  | with_reducible refine' g_catS ?_
  | with_reducible refine' g_mulS ?_
  | with_reducible refine' g_rev ?_)
/-! ### the text of deeds -/
def hdD : Dd → List WT
  | .set i _ => [("set", .str "set"), (wn i, .int i)]
  | .put _ _ => [("put", .str "put")]
  | .say _ => [("say", .str "say")]
  | .ite _ _ _ => [("if", .str "if")]
  | .whl _ _ => [("while", .str "while")]
  | .ret _ => [("return", .str "return")]
  | .dop _ => [("do", .str "do")]
def tlD : Dd → List WT
  | .ite _ a b => xb a ++ (wL :: (xb b ++ [wE]))
  | .whl _ b => xb b ++ [wE]
  | _ => []
theorem xd_parts (d : Dd) : xd d = hdD d ++ (xps (innerD d) ++ tlD d) := by
  cases d <;> simp [xd, hdD, tlD, innerD, xps]
theorem txD_inner {d : Dd} (h : txD d) : txPs (innerD d) := by
  cases d with
  | set i p => exact ⟨h.2, trivial⟩
  | put c p => exact ⟨h.1, h.2, trivial⟩
  | say p => exact ⟨h, trivial⟩
  | ite p a b => exact ⟨h.1, trivial⟩
  | whl p b => exact ⟨h.1, trivial⟩
  | ret p => exact ⟨h, trivial⟩
  | dop p => exact ⟨h, trivial⟩
theorem szD_inner (d : Dd) : 1 + szPs (innerD d) ≤ szD d := by
  cases d <;> simp only [innerD, szPs, szD] <;> omega
theorem encB_get : ∀ {b : List Dd} {i : Nat} {t : T}, (encB b)[i]? = some t → ∃ d, b[i]? = some d ∧ t = encDd d
  | [], i, t, h => by simp [encB] at h
  | d :: r, 0, t, h => by
    simp [encB] at h
    exact ⟨d, rfl, h.symm⟩
  | d :: r, i + 1, t, h => by
    obtain ⟨q, a, b⟩ := encB_get (b := r) (i := i) (t := t) (by simpa [encB] using h)
    exact ⟨q, by simpa using a, b⟩
theorem txB_get : ∀ {b : List Dd} {i : Nat} {d : Dd}, txB b → b[i]? = some d → txD d
  | _ :: _, 0, q, h, e => by
    simp at e
    rw [← e]
    exact h.1
  | _ :: r, i + 1, q, h, e => txB_get (b := r) h.2 (by simpa using e)
theorem szB_get : ∀ {b : List Dd} {i : Nat} {d : Dd}, b[i]? = some d → szD d ≤ szB b
  | p :: r, 0, q, e => by
    simp at e
    rw [← e]
    simp only [szB]
    omega
  | p :: r, i + 1, q, e => by
    have := szB_get (b := r) (i := i) (d := q) (by simpa using e)
    simp only [szB]
    omega
theorem szB_take : ∀ (b : List Dd) (i : Nat), szB (b.take i) ≤ szB b
  | _, 0 => by rw [List.take_zero]; simp [szB]
  | [], _ + 1 => Nat.le_refl _
  | p :: r, i + 1 => by
    have := szB_take r i
    simp only [List.take_succ_cons, szB]
    omega
theorem txB_take : ∀ {b : List Dd} (i : Nat), txB b → txB (b.take i)
  | _, 0, _ => by rw [List.take_zero]; trivial
  | [], _ + 1, h => h
  | p :: r, i + 1, h => ⟨h.1, txB_take (b := r) i h.2⟩
theorem xb_app : ∀ a b : List Dd, xb (a ++ b) = xb a ++ xb b
  | [], _ => rfl
  | p :: r, b => by
    show xd p ++ xb (r ++ b) = (xd p ++ xb r) ++ xb b
    rw [xb_app r b, List.append_assoc]
theorem okW_hdD {d : Dd} (h : txD d) : okW (hdD d) := by
  have := okW_d h
  rw [xd_parts] at this
  intro q hq
  exact this q (List.mem_append_left _ hq)
def isSet : Dd → Bool
  | .set _ _ => true
  | _ => false
theorem isSet_wd (d : Dd) : decide (V.str (wdT (.d d)) = V.str "set") = isSet d := by cases d <;> rfl
theorem isIf_wd (d : Dd) : decide (V.str (wdT (.d d)) = V.str "if") = (match d with | .ite _ _ _ => true | _ => false) := by cases d <;> rfl
theorem isWh_wd (d : Dd) : decide (V.str (wdT (.d d)) = V.str "while") = (match d with | .whl _ _ => true | _ => false) := by cases d <;> rfl
mutual
theorem okT_P : ∀ {p : Pt}, txP p → okT (encP p)
  | .num n, h => by have := okS_num h.1 h.2; exact ⟨(by decide +kernel : (reprText ("num" : Str)).length ≤ 12), ⟨log_ok h.1 h.2, this.1⟩, trivial⟩
  | .name i, h => by
    have h8 : i < 8 := h
    have := okS_nat (n := i) (by omega)
    exact ⟨(by decide +kernel : (reprText ("name" : Str)).length ≤ 12), ⟨log_ok (by omega) (by omega), this.1⟩, trivial⟩
  | .bin op a b, h => ⟨(by cases op <;> decide +kernel : (reprText op.str).length ≤ 12), okT_P h.1, okT_P h.2, trivial⟩
  | .nt a, h => ⟨(by decide +kernel : (reprText ("not" : Str)).length ≤ 12), okT_P (p := a) h, trivial⟩
  | .get a, h => ⟨(by decide +kernel : (reprText ("get" : Str)).length ≤ 12), okT_P (p := a) h, trivial⟩
  | .call f ps, h => by
    have h8 := h.1
    have := okS_nat (n := f) (by omega)
    exact ⟨(by decide +kernel : (reprText ("call" : Str)).length ≤ 12), ⟨log_ok (by omega) (by omega), this.1⟩, okT_Ps h.2.2, trivial⟩
theorem okT_Ps : ∀ {ps : List Pt}, txPs ps → okTs (encPs ps)
  | [], _ => trivial
  | p :: r, h => ⟨okT_P h.1, okT_Ps h.2⟩
end
mutual
theorem sgT_P : ∀ p : Pt, sgT (encP p) + 2 ≤ 50 * szP p
  | .num _ => by simp only [encP, sgT, sgTs, szP]; omega
  | .name _ => by simp only [encP, sgT, sgTs, szP]; omega
  | .bin _ a b => by have := sgT_P a; have := sgT_P b; simp only [encP, sgT, sgTs, szP]; omega
  | .nt a => by have := sgT_P a; simp only [encP, sgT, sgTs, szP]; omega
  | .get a => by have := sgT_P a; simp only [encP, sgT, sgTs, szP]; omega
  | .call _ ps => by have := sgT_Ps ps; simp only [encP, sgT, sgTs, szP]; omega
theorem sgT_Ps : ∀ ps : List Pt, sgTs (encPs ps) ≤ 50 * szPs ps
  | [] => Nat.le_refl _
  | p :: r => by have := sgT_P p; have := sgT_Ps r; simp only [encPs, sgTs, szPs]; omega
end
/-- what stands behind a deed's word: a name's number, or a part -/
theorem rest_one (d : Dd) : (∃ i p, d = .set i p) ∨ ∃ p r, restT (.d d) = encP p :: r ∧ isSet d = false ∧ innerD d ≠ [] ∧ (innerD d).head? = some p := by
  cases d with
  | set i p => exact .inl ⟨i, p, rfl⟩
  | put c p => exact .inr ⟨c, _, rfl, rfl, by simp [innerD], rfl⟩
  | say p => exact .inr ⟨p, _, rfl, rfl, by simp [innerD], rfl⟩
  | ite p a b => exact .inr ⟨p, _, rfl, rfl, by simp [innerD], rfl⟩
  | whl p b => exact .inr ⟨p, _, rfl, rfl, by simp [innerD], rfl⟩
  | ret p => exact .inr ⟨p, _, rfl, rfl, by simp [innerD], rfl⟩
  | dop p => exact .inr ⟨p, _, rfl, rfl, by simp [innerD], rfl⟩
theorem jn_cons2 (x : List Str) (h : x ≠ []) (y : Str) : y ++ sp ++ jn x = jn (y :: x) := by
  cases x with
  | nil => exact (h rfl).elim
  | cons a r => rw [jn_cons, S_assoc]
def spBodyText (K : PySem.W.Frag) (n : Nat) : Sp := fun vs H Q _ => ∃ v b nm ps, vs = [v] ∧ Rep K H v (.tup (encB b)) ∧ wfBs nm ps n b ∧ nm ≤ 8 ∧ ps.length ≤ 8 ∧ (∀ m ∈ ps, m ≤ 4) ∧ szB b ≤ 200 ∧ ∀ H', Ch K [] H H' → Q (.str (bl (ww (xb b)))) H'
theorem wfBs_get {nm : Nat} {ps : List Nat} {n : Nat} : ∀ {b : List Dd} {i : Nat} {d : Dd}, wfBs nm ps n b → b[i]? = some d → ∃ m, n = m + 1 ∧ wfD nm ps m d
  | [], i, d, _, e => by simp at e
  | d0 :: r, 0, d, h, e => by
    simp at e
    subst e
    cases n with
    | zero => exact h.elim
    | succ m => exact ⟨m, rfl, h.1⟩
  | d0 :: r, i + 1, d, h, e => by
    cases n with
    | zero => exact h.elim
    | succ m => exact wfBs_get (b := r) (i := i) h.2 (by simpa using e)
theorem wfD_inner {nm : Nat} {ps : List Nat} {m : Nat} {d : Dd} (h : wfD nm ps m d) : szPs (innerD d) ≤ 40 := by
  cases d <;> simp only [wfD, innerD, szPs] at h ⊢ <;> omega
theorem bl_snoc (x : List Str) (y : Str) : bl x ++ y ++ sp = bl (x ++ [y]) := by
  rw [bl_app, S_assoc]
  show _ = bl x ++ (y ++ (sp ++ ""))
  rw [S_nilR]
theorem bl_cat (x y : List Str) (h : y ≠ []) : bl x ++ jn y ++ sp = bl (x ++ y) := by
  rw [bl_app, bl_jn h, S_assoc]
theorem body_text_step (C : Cn w K mg base) (k : Nat) (hk : 44 ≤ k) (n : Nat) {spx : Sp} (F_law_body_text : Fn P w K mg base CX0 k "_law_body_text" ["_law_deeds"] spx)
    (hsp : ∀ m, n = m + 1 → ∀ vs H Q E, spBodyText K m vs H Q E → spx vs H Q E) : Fn P w K mg base CX0 (k + 1) "_law_body_text" ["_law_deeds"] (spBodyText K n) := C.f_law_body_text fun fd F => by
  have F_law_inner : Fn P w K mg base CX0 2 "_law_inner" ["_law_thing"] (spInner K) := fn_inner C
  have F_law_part_text : Fn P w K mg base CX0 43 "_law_part_text" ["_law_part_here"] (spPartText K 40) := fn_part_text C 40
  refine F.ok (CX := CX0) sc_law_body_text (fun vs H Q E h => ?_) (fun cdv A outer s H vs Q E hr h => ?_)
  · obtain ⟨v, b, nm, ps, rfl, _⟩ := h
    rfl
  · obtain ⟨v, b, nm, ps, rfl, rep, wf, n8, l8, p4, sz, q⟩ := h
    refine ⟨_, PSs.nox (pss_cons (ps_set (i := 1) sc_law_body_text.nd rfl (Or.inl rfl) pe_str)
      (pss_cons (ps_for PassesOwn.never rfl (pi_tup (pv 0)) (pg_name (i := 2) sc_law_body_text.nd rfl (Or.inl rfl)) (Evl.pss_cut (ps_set (i := 1) sc_law_body_text.nd rfl (Or.inl rfl) (pe_op op_catS (pe_op op_catS (pe_op op_catS (pv 1) (pe_ix ix_tup (pv 2) pe_int (fun _ _ => rfl))) pe_str) (pe_op op_mulS (pe_op op_catS (pe_callTy (call_strA (rmm hr)) (by rfl) (C.m_str) (by decide +kernel) (pa_cons (pe_ix ix_tup (pv 2) pe_int (fun _ _ => rfl)) pa_nil)) pe_str) (pe_callTy call_int1 (by rfl) (C.m_int) (by decide +kernel) (pa_cons (pe_cmpR op_eq (pe_ix ix_tup (pv 2) pe_int (fun _ _ => rfl)) pe_str (nomark _)) pa_nil)))))
      (pss_cons (ps_for PassesOwn.never rfl (pi_list (pe_fn F_law_inner (rmm hr) (by rfl) pass0 (pa_cons (pv 2) pa_nil))) (pg_name (i := 3) sc_law_body_text.nd rfl (Or.inl rfl)) (pss_one (ps_set (i := 1) sc_law_body_text.nd rfl (Or.inl rfl) (pe_op op_catS (pe_op op_catS (pv 1) (pe_fn F_law_part_text (rmm hr) (by rfl) pass0 (pa_cons (pv 3) pa_nil))) pe_str))))
      (Evl.pss_cut (ps_if (pt_cmpR op_eq (pe_ix ix_tup (pv 2) pe_int (fun _ _ => rfl)) pe_str (nomark _)) (pss_cons (ps_set (i := 1) sc_law_body_text.nd rfl (Or.inl rfl) (pe_op op_catS (pe_op op_catS (pv 1) (pe_fn F_law_body_text (rmm hr) (by rfl) pass0 (pa_cons (pe_ix ix_tup (pv 2) pe_int (fun _ _ => rfl)) pa_nil))) pe_str))
      (pss_one (ps_set (i := 1) sc_law_body_text.nd rfl (Or.inl rfl) (pe_op op_catS (pe_op op_catS (pv 1) (pe_fn F_law_body_text (rmm hr) (by rfl) pass0 (pa_cons (pe_ix ix_tup (pv 2) pe_int (fun _ _ => rfl)) pa_nil))) pe_str)))) pss_nil)
      (pss_one (ps_if (pt_cmpR op_eq (pe_ix ix_tup (pv 2) pe_int (fun _ _ => rfl)) pe_str (nomark _)) (pss_one (ps_set (i := 1) sc_law_body_text.nd rfl (Or.inl rfl) (pe_op op_catS (pe_op op_catS (pv 1) (pe_fn F_law_body_text (rmm hr) (by rfl) pass0 (pa_cons (pe_ix ix_tup (pv 2) pe_int (fun _ _ => rfl)) pa_nil))) pe_str))) pss_nil))))))
      (pss_one (ps_ret (pv 1))))), ?_⟩
    obtain ⟨a, us, rfl, hS, rs⟩ := rep.tupI
    have hl : us.length = b.length := by rw [rs.len, encB_len]
    have tx := txB_of n8 l8 p4 wf
    have len1 : ("" : Str).length = 0 := by decide +kernel
    have lsp := len_sp
    walk_at "go"
    refine ⟨⟨_, hS⟩, for_tup (K := K) (a := a) (xs := us) (fun i σ H' => ∃ x2 x3, σ = [some (.ref a), some (.str (bl (ww (xb (b.take i))))), x2, x3] ∧ Ch K [] H H') ⟨none, none, by rw [List.take_zero]; rfl, Ch.refl⟩ (fun i σ H' _ ⟨_, _, _, c⟩ => c.sqT hS) ?_ ?_⟩
    · rintro i y σ H1 hi ⟨x2, x3, rfl, c1⟩
      obtain ⟨t, ht, rt⟩ := rs.get hi
      obtain ⟨d, hd, rfl⟩ := encB_get ht
      obtain ⟨m, rfl, wd⟩ := wfBs_get wf hd
      have td := txB_get tx hd
      have zd := szB_get hd
      have zi := wfD_inner wd
      have zt := szB_take b i
      have okT := okW_b (txB_take i tx)
      have lT := blw_len okT
      have xT := xb_len (b.take i)
      have okH := okW_hdD td
      have rt0 : Rep K H1 y (encT (.d d)) := rt.kt c1.kt
      obtain ⟨da, dus, rfl, hD, rD⟩ := thing1 rt0
      have h0 : atI (V.str (wdT (.d d)) :: dus) 0 = some (V.str (wdT (.d d))) := atI_nat (j := 0) rfl
      have lw : (wdT (.d d)).length ≤ 8 := by cases d <;> (simp only [wdT]; decide +kernel)
      have lh : (hdD d).length ≤ 2 := by cases d <;> simp [hdD]
      walk_at "g"
      refine g_cut (Mid := fun σ' H' => σ' = [some (.ref a), some (.str (bl (ww (xb (b.take i) ++ hdD d)))), some (.ref da), x3] ∧ H' = H1) ?_ ?_
      · walk_at "g"
        refine ⟨by omega, ?_⟩
        walk_at "g"
        refine ⟨by rw [S_len]; omega, ?_⟩
        rcases rest_one d with ⟨z, p, rfl⟩ | ⟨p, r, hr1, hs, hne, hhd⟩
        · obtain ⟨v1, vs2, rfl, r1, rs2⟩ := rD.consI
          obtain rfl := r1.intI
          have h1 : atI (V.str (wdT (.d (.set z p))) :: V.int z :: vs2) 1 = some (V.int z) := atI_nat (j := 1) rfl
          have z8 : z < 8 := td.1
          have w1 := wlen (okS_nat (n := z) (by omega))
          walk_at "g"
          refine .inl ⟨_, rfl, log_ok (by omega) (by omega), ?_⟩
          walk_at "g"
          refine ⟨by omega, ?_⟩
          walk_at "g"
          refine ⟨by rw [if_pos (show decide (V.str (wdT (.d (.set z p))) = V.str (Str.ofString "set")) = true from rfl), S_len, S_len, S_len]; omega, ?_⟩
          walk_at "g"
          refine ⟨?_, rfl⟩
          rw [show ww (xb (b.take i) ++ hdD (.set z p)) = ww (xb (b.take i)) ++ [("set" : Str)] ++ [wn z] from by simp [ww, hdD], ← bl_snoc, ← bl_snoc, S_assoc _ (wn z) sp]
          rfl
        · have hr2 := hr1
          obtain ⟨v1, vs2, rfl, r1, rs2⟩ : ∃ v1 vs2, dus = v1 :: vs2 ∧ Rep K H1 v1 (encP p) ∧ Reps K H1 vs2 r := by
            rw [hr1] at rD
            exact rD.consI
          have h1 : atI (V.str (wdT (.d d)) :: v1 :: vs2) 1 = some v1 := atI_nat (j := 1) rfl
          obtain ⟨ts, ets⟩ : ∃ ts, encP p = .tup ts := by cases p <;> exact ⟨_, rfl⟩
          have hp : (innerD d)[0]? = some p := by
            cases e : innerD d with
            | nil => exact (hne e).elim
            | cons p0 r0 => rw [e] at hhd; simpa using hhd
          have tp := txPs_get (txD_inner td) hp
          have zp := szPs_get hp
          have o1 := okT_P tp
          have g1 := sgT_P p
          have d1 := dpT_P p
          have d2 := dpP_sz p
          rw [ets] at r1 o1 g1 d1
          simp only [sgT, dpT] at g1 d1
          walk_at "g"
          refine .inr ⟨v1, ts, rfl, r1, o1, by omega, by omega, fun M hM => ?_⟩
          walk_at "g"
          refine ⟨by omega, ?_⟩
          walk_at "g"
          rw [isSet_wd, hs]
          walk_at "g"
          refine ⟨by rw [S_len, S_len]; simp only [Bool.false_eq_true, if_false]; omega, ?_⟩
          walk_at "g"
          refine ⟨?_, rfl⟩
          have e2 : hdD d = [(wdT (.d d), .str (wdT (.d d)))] := by cases d <;> first | rfl | (cases hs)
          rw [e2, show ww (xb (b.take i) ++ [(wdT (.d d), .str (wdT (.d d)))]) = ww (xb (b.take i)) ++ [wdT (.d d)] from by simp [ww], ← bl_snoc, if_neg Bool.false_ne_true, show (Str.ofString "" : Str) = "" from rfl, S_nilR]
          rfl
      · rintro _ _ ⟨rfl, rfl⟩
        walk_at "g"
        refine ⟨_, .d d, rfl, rt0, fun H2 l us2 c2 n2 e2 r2 => ?_⟩
        walk_at "g"
        have hl2 : us2.length = (innerD d).length := by rw [r2.len]; exact encPs_len _
        have txi := txD_inner td
        have szi := szD_inner d
        have c12 := c1.trans c2
        refine ⟨⟨_, SqL.of e2⟩, for_list (K := K) (a := l) (xs := us2) (fun j σ H' => ∃ x3, σ = [some (.ref a), some (.str (bl (ww (xb (b.take i) ++ hdD d ++ xps ((innerD d).take j))))), some (.ref da), x3] ∧ Ch K [] H2 H') ⟨x3, by rw [List.take_zero]; simp [xps], Ch.refl⟩ (fun i σ H' _ ⟨_, _, c⟩ => c.sqL (SqL.of e2) (by simp)) ?_ ?_⟩
        · rintro j y2 σ H3 hj ⟨x3', rfl, c3⟩
          obtain ⟨t2, ht2, rt2⟩ := r2.get hj
          obtain ⟨q1, hq1, rfl⟩ := encPs_get ht2
          have hq1 : (innerD d)[j]? = some q1 := hq1
          have tq := txPs_get txi hq1
          have zq := szPs_get hq1
          have dq := dpP_sz q1
          have ok1 : okW (xb (b.take i) ++ hdD d ++ xps ((innerD d).take j)) := okW_app (okW_app okT okH) (okW_ps (txPs_take j txi))
          have ln1 := blw_len ok1
          have ln2 := xps_len ((innerD d).take j)
          have ln3 := szPs_take (innerD d) j
          have ln4 := jn_len (okW_p tq)
          have ln5 := xp_len q1
          rw [List.length_append, List.length_append] at ln1
          walk_at "g"
          refine ⟨y2, q1, rfl, rt2.kt c3.kt, tq, by omega, by omega, fun H4 c4 => ?_⟩
          walk_at "g"
          refine ⟨by omega, ?_⟩
          walk_at "g"
          refine ⟨by rw [S_len]; omega, ?_⟩
          walk_at "g"
          refine ⟨some y2, ?_, c3.trans c4⟩
          rw [take_snoc hq1, xps_app, ← List.append_assoc, ww_app _ (xps [q1]), show xps [q1] = xp q1 from by simp [xps], ← bl_cat _ _ (ww_ne (xp_ne q1))]
          rfl
        · rintro σ H3 ⟨x3', rfl, c3⟩
          rw [hl2, List.take_length]
          have ok1 : okW (xb (b.take i) ++ hdD d ++ xps (innerD d)) := okW_app (okW_app okT okH) (okW_ps txi)
          have ln1 := blw_len ok1
          have ln2 := xps_len (innerD d)
          rw [List.length_append, List.length_append] at ln1
          have c13 := c12.trans c3
          have hD3 := (c2.trans c3).sqT hD
          have rD3 := rD.kt (c2.trans c3).kt
          have lE : ("else " : Str).length = 5 := by decide +kernel
          have lN : ("end " : Str).length = 4 := by decide +kernel
          walk_at "g"
          refine g_cut (Mid := fun σ' H' => σ' = [some (.ref a), some (.str (bl (ww (xb (b.take i) ++ hdD d ++ xps (innerD d) ++ (match d with | .ite _ _ _ => tlD d | _ => []))))), some (.ref da), x3'] ∧ Ch K [] H3 H') ?_ ?_
          · walk_at "g"
            rw [isIf_wd]
            cases d with
            | ite p x z =>
              obtain ⟨v1, vs2, rfl, r1, rs2⟩ := rD3.consI
              obtain ⟨v2, vs3, rfl, r2', rs3⟩ := rs2.consI
              obtain ⟨v3, vs4, rfl, r3', rs4⟩ := rs3.consI
              have h2 : atI (V.str (wdT (.d (.ite p x z))) :: v1 :: v2 :: v3 :: vs4) 2 = some v2 := atI_nat (j := 2) rfl
              have h3 : atI (V.str (wdT (.d (.ite p x z))) :: v1 :: v2 :: v3 :: vs4) 3 = some v3 := atI_nat (j := 3) rfl
              have okx := blw_len (okW_b td.2.1)
              have okz := blw_len (okW_b td.2.2)
              have lx := xb_len x
              have lz := xb_len z
              simp only [szD] at zd szi
              refine tkT rfl ?_
              walk_at "g"
              refine hsp m rfl _ _ _ _ ⟨v2, x, nm, ps, rfl, r2', wd.2.2.1, n8, l8, p4, by omega, fun H4 c4 => ?_⟩
              have hD4 := c4.sqT hD3
              walk_at "g"
              refine ⟨by omega, ?_⟩
              walk_at "g"
              refine ⟨by rw [S_len]; omega, ?_⟩
              walk_at "g"
              refine hsp m rfl _ _ _ _ ⟨v3, z, nm, ps, rfl, r3'.kt c4.kt, wd.2.2.2, n8, l8, p4, by omega, fun H5 c5 => ?_⟩
              walk_at "g"
              refine ⟨by rw [S_len, S_len]; omega, ?_⟩
              walk_at "g"
              refine ⟨by rw [S_len, S_len, S_len]; omega, ?_⟩
              walk_at "g"
              refine ⟨?_, c4.trans c5⟩
              have e1 : bl (ww (tlD (.ite p x z))) = bl (ww (xb x)) ++ (("else " : Str) ++ (bl (ww (xb z)) ++ ("end " : Str))) := by
                show bl (ww (xb x ++ (wL :: (xb z ++ [wE])))) = _
                rw [ww_app, bl_app, show ww (wL :: (xb z ++ [wE])) = [("else" : Str)] ++ (ww (xb z) ++ [("end" : Str)]) from by simp [ww, wL, wE], bl_app, bl_app]
                rw [show bl [("else" : Str)] = ("else " : Str) from by decide +kernel, show bl [("end" : Str)] = ("end " : Str) from by decide +kernel]
              rw [ww_app _ (tlD _), bl_app, e1]
              simp only [S_assoc]
              rfl
            | _ =>
              refine tkF rfl ?_
              walk_at "g"
              refine ⟨?_, Ch.refl⟩
              rw [List.append_nil]
          · rintro _ H4 ⟨rfl, c4⟩
            have hD4 := c4.sqT hD3
            have rD4 := rD3.kt c4.kt
            walk_at "g"
            rw [isWh_wd]
            have fin : xb (b.take (i + 1)) = xb (b.take i) ++ hdD d ++ xps (innerD d) ++ tlD d := by
              rw [take_snoc hd, xb_app, show xb [d] = xd d from by simp [xb], xd_parts]
              simp
            cases d with
            | whl p x =>
              obtain ⟨v1, vs2, rfl, r1, rs2⟩ := rD4.consI
              obtain ⟨v2, vs3, rfl, r2', rs3⟩ := rs2.consI
              have h2 : atI (V.str (wdT (.d (.whl p x))) :: v1 :: v2 :: vs3) 2 = some v2 := atI_nat (j := 2) rfl
              have okx := blw_len (okW_b td.2)
              have lx := xb_len x
              simp only [szD] at zd szi
              refine tkT rfl ?_
              rw [List.append_nil]
              walk_at "g"
              refine hsp m rfl _ _ _ _ ⟨v2, x, nm, ps, rfl, r2', wd.2.2, n8, l8, p4, by omega, fun H5 c5 => ?_⟩
              walk_at "g"
              refine ⟨by omega, ?_⟩
              walk_at "g"
              refine ⟨by rw [S_len]; omega, ?_⟩
              walk_at "g"
              refine ⟨some (.ref da), x3', ?_, (c13.trans c4).trans c5⟩
              have e5 : bl (ww (tlD (.whl p x))) = bl (ww (xb x)) ++ ("end " : Str) := by
                show bl (ww (xb x ++ [wE])) = _
                rw [ww_app (xb x) [wE], bl_app (ww (xb x)), show bl (ww [wE]) = ("end " : Str) from by decide +kernel]
              rw [fin, ww_app _ (tlD _), bl_app, e5, ← S_assoc]
              rfl
            | ite p x z =>
              refine tkF rfl ?_
              walk_at "g"
              exact ⟨some (.ref da), x3', by rw [fin], c13.trans c4⟩
            | _ =>
              refine tkF rfl ?_
              walk_at "g"
              exact ⟨some (.ref da), x3', by rw [fin]; rfl, c13.trans c4⟩
    · rintro σ H1 ⟨x2, x3, rfl, c1⟩
      walk_at "g"
      have := q H1 c1
      rw [hl, List.take_length]
      exact this
theorem fn_body_text (C : Cn w K mg base) : ∀ n : Nat, Fn P w K mg base CX0 (n + 45) "_law_body_text" ["_law_deeds"] (spBodyText K n)
  | 0 => body_text_step C 44 (by decide) 0 (spx := fun _ _ _ _ => False) (C.f_law_body_text fun fd F => ⟨fun _ _ _ _ h => h.elim, fun _ _ _ _ _ _ _ _ _ _ _ _ _ h => h.elim⟩) fun m h => by omega
  | n + 1 => body_text_step C (n + 45) (by omega) (n + 1) (fn_body_text C n) fun m e _ _ _ _ h => by
    have : m = n := by omega
    rw [← this]
    exact h
end
end K3
end

section
set_option maxRecDepth 100000
set_option maxHeartbeats 1000000
open Bq L2
/-- one step of a reading; what is left are side goals and places to think -/
local macro_rules | `(tactic| walk_at "g1") => `(tactic| first
  | with_reducible refine' g_seq ?_ | with_reducible refine' g_asg ?_ | with_reducible refine' g_drop ?_ | with_reducible refine' g_ret ?_ | with_reducible refine' g_ifS ?_ | with_reducible refine' g_asgG ?_
  | ((with_reducible refine' g_var ?hv ?_); (case hv => rfl))
  | with_reducible refine' g_c ?_ | with_reducible refine' g_op ?_ | with_reducible refine' g_un ?_ | with_reducible refine' g_I0 ?_ | with_reducible refine' g_U ?_
  | with_reducible refine' g_test ?_ | with_reducible refine' g_tB ?_ | with_reducible refine Exists.intro _ (And.intro rfl ?_) 
  | ((with_reducible refine' g_andP ?ha ?hb ?_); (case ha => intro R q; walk_at "g"; exact q); (case hb => intro R q; walk_at "g"; exact q))
  | ((with_reducible refine' g_orP ?ha ?hb ?_); (case ha => intro R q; walk_at "g"; exact q); (case hb => intro R q; walk_at "g"; exact q))
  | with_reducible refine' g_and ?_ | with_reducible refine' g_or ?_ | with_reducible refine' g_not ?_
  | with_reducible refine' g_andV ?_ | with_reducible refine' g_orV ?_ | with_reducible refine' g_notV ?_ | with_reducible refine' g_if ?_ | with_reducible refine' g_nil ?_ | with_reducible refine' g_cons ?_
  | with_reducible refine' g_tup ?_ | with_reducible refine' g_lst ?_ | with_reducible refine' g_CB ?_ | with_reducible refine' g_Fn ?_ | with_reducible refine' g_next ?_ | with_reducible refine' g_retN ?_
  | with_reducible refine' g_name ?_ | with_reducible refine' g_sub ?_
  | ((with_reducible refine' g_ixL ?hs ?he ?_); (case hs => walk_at "lk"); (case he => walk_at "at"))
  | ((with_reducible refine' g_ixT ?hs ?he ?_); (case hs => walk_at "lk"); (case he => walk_at "at"))
  | ((with_reducible refine' g_setL ?hs ?he ?_); (case hs => walk_at "hp"); (case he => rfl))
  | ((with_reducible refine' g_app ?hs ?hz ?_); (case hs => walk_at "hp"); (case hz => walk_at "sz"))
  | ((with_reducible refine' ⟨_, _, rfl, Or.inl ?hs, ?_⟩); (case hs => walk_at "lk"))
  | ((with_reducible refine' ⟨_, _, rfl, Or.inr ?hs, ?_⟩); (case hs => walk_at "lk"))
  | with_reducible refine' g_BM ?_ | with_reducible refine' g_BM0 ?_ | ((with_reducible refine' g_tyL ?hs ?_); (case hs => walk_at "lk"))
  | with_reducible refine' g_sl ?_ | with_reducible refine' g_noPart ?_ | with_reducible refine' g_part ?_
  | ((with_reducible refine' g_inT ?hs ?fx ?fs ?_); (case hs => walk_at "lk"); (case fx => rfl); (case fs => rfl))
  | with_reducible refine' g_pair ?_ | with_reducible refine' g_pair0 ?_ | with_reducible refine' g_disp ?_
  | with_reducible refine' g_for ?_ | with_reducible refine' g_tupC ?_ | with_reducible refine' g_lstC ?_ | ((with_reducible refine' g_lens ?_)) | with_reducible refine' g_dg ?_ | with_reducible refine' g_lc ?_ | with_reducible refine' g_rng1 ?_ | with_reducible refine' g_ilist ?_ | with_reducible refine' g_itup ?_
  | ((with_reducible refine' ⟨_, _, rfl, ?hd, ?_⟩); (case hd => walk_at "dg"))
  | ((with_reducible refine' g_eqNil ?hs ?hz ?_); (case hs => walk_at "lk"); (case hz => walk_at "lk"))
  | ((with_reducible refine' g_neNil ?hs ?hz ?_); (case hs => walk_at "lk"); (case hz => walk_at "lk"))
  | with_reducible refine Or.inl ⟨_, rfl, ?_⟩
  | with_reducible refine Or.inr ⟨_, rfl, ?_⟩
  | ((with_reducible refine' g_eq ?hs ?_); (case hs => rfl))
  | ((with_reducible refine' g_ne ?hs ?_); (case hs => rfl))
  | ((with_reducible refine' g_I ?hc ?_); (case hc => walk_at "ar")))
/-- arithmetic's side conditions -/
local macro_rules | `(tactic| walk_at "ar") => `(tactic| (first
  | (show (0 : Int) < _; first | omega | decide) | (show (0 : Int) < _ ∧ _; constructor <;> omega) | (show ¬ (_ : Int) = _; omega) | (show (_ : Int) ≠ _ ∧ _; constructor <;> omega)
  | (show (-(2 ^ 64) < _ ∧ _) ∨ _; (first | (left; constructor <;> omega) | (right; constructor <;> omega))) | (show (0 : Int) ≤ _ ∧ _ ∧ _; refine ⟨by omega, by omega, by decide⟩)))
/-- what stands at an index -/
local macro_rules | `(tactic| walk_at "at") => `(tactic| first | rfl | assumption)
/-- what stands at an address -/
local macro_rules | `(tactic| walk_at "hp") => `(tactic| first | assumption | exact upd_same | ((refine' Eq.trans (upd_ne ?hn) ?hm); (case hm => walk_at "hp"); (case hn => walk_at "ne")))
/-- two places are two -/
local macro_rules | `(tactic| walk_at "ne") => `(tactic| first
  | assumption | exact Ne.symm (by assumption)
  | ((refine' ne_of_none ?ha ?hb); (case hb => assumption); (case ha => walk_at "hp")) | ((refine' Ne.symm (ne_of_none ?ha ?hb)); (case hb => assumption); (case ha => walk_at "hp")))
/-- what a dict tells -/
local macro_rules | `(tactic| walk_at "dg") => `(tactic| first | assumption)
/-- a length -/
local macro_rules | `(tactic| walk_at "sz") => `(tactic| first | (show _ ≤ sizeLine; decide) | (show _ < sizeLine; decide) | assumption | exact szlt (by simp) | exact szle (by simp))
/-- a list or tuple that stands -/
local macro_rules | `(tactic| walk_at "lk") => `(tactic| first | assumption | exact SqL.of (by assumption) | exact SqT.of (by assumption) | exact SqL.of upd_same | exact SqT.of upd_same | (refine' FzL.sq ?hm; (case hm => walk_at "fz")))
/-- a list that nobody writes -/
local macro_rules | `(tactic| walk_at "fz") => `(tactic| first | assumption | ((refine' FzL.uw ?hm ?hx); (case hx => walk_at "hp"); (case hm => walk_at "fz")) | ((refine' FzL.nw ?hm ?hx); (case hx => assumption); (case hm => walk_at "fz")))
/-- as far as it goes by itself -/
local macro_rules | `(tactic| walk_at "g") => `(tactic| repeat walk_at "g1")
/-- the body's reading, its places in short -/
local macro_rules | `(tactic| walk_at "go") => `(tactic| ((try dsimp only [cxOf, Cx.nox, Cx.wish]); walk_at "g"))
namespace K3
open PySem PySem.Spec PyProof.Rows L2 Bq
section
variable {P : Program} {w : World} {K : PySem.W.Frag} {mg : Str → Option Value} {base : Heap}
/-- further steps: dicts written, tuples taken apart -/
local macro_rules | `(tactic| walk_at "g1") => `(tactic| first
  | with_reducible refine' g_sdput ?_
  | ((with_reducible refine' g_gtup ?hs ?hl ?_); (case hs => walk_at "lk"); (case hl => rfl))
  | with_reducible refine' g_gcons ?_
  | with_reducible refine' g_gnil ?_
  | with_reducible refine' And.intro (Eq.refl V.non) ?_
  | with_reducible refine' g_isN ?_
  | ((with_reducible refine' g_chainR ?ha ?hb ?hc ?_); (case ha => intro R q; walk_at "g"; exact q); (case hb => intro R q; walk_at "g"; exact q); (case hc => intro R q; walk_at "g"; exact q))
  | with_reducible refine' g_notN ?_)
/-- what the law's dict tells -/
local macro_rules | `(tactic| walk_at "dg") => `(tactic| first
  | assumption
  | exact LH.gfuns (by assumption)
  | exact LH.gsaid (by assumption)
  | exact LH.gcells (by assumption)
  | exact LH.gfuel (by assumption)
  | exact LH.gend (by assumption)
  | exact LH.gcalls (by assumption)
  | exact LH.gnames (by assumption)
  | exact LH.gwaits (by assumption)
  | exact LH.gworth (by assumption)
  | exact LH.glook (by assumption))
/-- a test that fails, that holds, by itself -/
local macro_rules | `(tactic| walk_at "no") => `(tactic| ((refine tkF rfl ?_); walk_at "g"))
local macro_rules | `(tactic| walk_at "yes") => `(tactic| ((refine tkT rfl ?_); walk_at "g"))
local macro_rules | `(tactic| walk_at "g1") => `(tactic| first
  | with_reducible refine' g_catS ?_
  | with_reducible refine' g_mulS ?_
  | with_reducible refine' g_rev ?_)
/-- texts: methods, signs, slices -/
local macro_rules | `(tactic| walk_at "g1") => `(tactic| first
  | with_reducible refine' g_tm0 ?_
  | with_reducible refine' g_tm1 ?_
  | with_reducible refine' g_isdig ?_
  | with_reducible refine' g_isasc ?_
  | with_reducible refine' g_starts ?_
  | with_reducible refine' g_str0 ?_
  | with_reducible refine' g_revL ?_
  | with_reducible refine' g_nilTrue ?_
  | with_reducible refine' g_chainT ?_)
theorem g_match {te : TE} {t : V → TS} {D : Ends} {σ : L2.St} {H : Hp} (h : te σ H fun v H1 => t v D σ H1) : tMatch te t D σ H := h
theorem case_no {K : PySem.W.Frag} {w : Str} {n : Nat} {sl : List (Option Nat)} {tb : TS} {tr : V → TS} {D : Ends} {σ : L2.St} {H : Hp} {a : Addr} {z : Str} {xs : List V} (h : SqT K H a (.str z :: xs)) (hn : decide (xs.length = n ∧ z = w) = false) (k : tr (.ref a) D σ H) : tCase K w n sl tb tr (.ref a) D σ H :=
  ⟨a, z, xs, rfl, h, by rw [hn, if_neg Bool.false_ne_true]; exact k⟩
theorem case_yes {K : PySem.W.Frag} {w : Str} {n : Nat} {sl : List (Option Nat)} {tb : TS} {tr : V → TS} {D : Ends} {σ : L2.St} {H : Hp} {a : Addr} {xs : List V} (h : SqT K H a (.str w :: xs)) (hn : xs.length = n) (k : tb D (capS sl xs σ) H) : tCase K w n sl tb tr (.ref a) D σ H :=
  ⟨a, w, xs, rfl, h, by rw [if_pos (by simp [hn])]; exact k⟩
theorem wd_ne {t : Th} {z : Str} {xs : List V} {n : Nat} (h : wdT t ≠ z) : decide (xs.length = n ∧ wdT t = z) = false := by
  rw [decide_eq_false]
  exact fun e => h e.2
theorem S_ne {a b : Str} (h : TL.tl a ≠ TL.tl b) : a ≠ b := fun e => h (by rw [e])
/-- things that are written word, then parts -/
def plainT : Th → Prop
  | .p (.num _) => False
  | .p (.name _) => False
  | .p (.call _ _) => False
  | .d (.set _ _) => False
  | .d (.ite _ _ _) => False
  | .d (.whl _ _) => False
  | _ => True
theorem plain_wd {t : Th} (h : plainT t) : wdT t ≠ "num" ∧ wdT t ≠ "name" ∧ wdT t ≠ "call" ∧ wdT t ≠ "set" ∧ (decide (wdT t = "if") || decide (wdT t = "while")) = false := by
  cases t with
  | p p => cases p with
    | num i => exact h.elim
    | name i => exact h.elim
    | call f ps => exact h.elim
    | bin op a b => cases op <;> (refine ⟨?_, ?_, ?_, ?_, by rfl⟩ <;> (simp only [wdT, Op.str]; decide +kernel))
    | _ => refine ⟨?_, ?_, ?_, ?_, by rfl⟩ <;> (simp only [wdT]; decide +kernel)
  | d d => cases d <;> first | exact h.elim | (refine ⟨?_, ?_, ?_, ?_, by rfl⟩ <;> (simp only [wdT]; decide +kernel))
theorem plain_parts {t : Th} (h : plainT t) : restT t = encPs (innerT t) ∧ xT t = (wdT t, .str (wdT t)) :: xps (innerT t) := by
  cases t with
  | p p => cases p <;> first | exact h.elim | (refine ⟨rfl, ?_⟩; simp [xT, xp, innerT, innerP, xps, wdT])
  | d d => cases d <;> first | exact h.elim | (refine ⟨rfl, ?_⟩; simp [xT, xd, innerT, innerD, xps, wdT])
theorem plain_ok {t : Th} (h : plainT t) (tx : txT t) : ∀ p ∈ innerT t, txP p ∧ 2 * dpP p + 2 ≤ whT t := by
  have h1 : txPs (innerT t) := by
    cases t with
    | p p => exact txP_inner tx
    | d d => exact txD_inner tx
  intro p hp
  refine ⟨txPs_all h1 p hp, ?_⟩
  cases t with
  | p p0 => cases p0 with
    | num i => exact h.elim
    | name i => exact h.elim
    | call f ps => exact h.elim
    | bin op a b =>
      simp only [innerT, innerP, List.mem_cons, List.not_mem_nil, or_false] at hp
      simp only [whT, dpP]
      rcases hp with rfl | rfl <;> omega
    | nt a => simp only [innerT, innerP, List.mem_cons, List.not_mem_nil, or_false] at hp; subst hp; simp only [whT, dpP]; omega
    | get a => simp only [innerT, innerP, List.mem_cons, List.not_mem_nil, or_false] at hp; subst hp; simp only [whT, dpP]; omega
  | d d => cases d with
    | set i p => exact h.elim
    | ite p a b => exact h.elim
    | whl p b => exact h.elim
    | put c q =>
      simp only [innerT, innerD, List.mem_cons, List.not_mem_nil, or_false] at hp
      simp only [whT, whD]
      rcases hp with rfl | rfl <;> omega
    | say q => simp only [innerT, innerD, List.mem_cons, List.not_mem_nil, or_false] at hp; subst hp; simp only [whT, whD]; omega
    | ret q => simp only [innerT, innerD, List.mem_cons, List.not_mem_nil, or_false] at hp; subst hp; simp only [whT, whD]; omega
    | dop q => simp only [innerT, innerD, List.mem_cons, List.not_mem_nil, or_false] at hp; subst hp; simp only [whT, whD]; omega
theorem g_jcons {t : TE} {ts : List TE} {acc : Str} {σ : L2.St} {H : Hp} {Q : Str → Hp → Prop} (h : t σ H fun x H1 => ∃ y : Str, x = .str y ∧ (acc ++ y).length ≤ sizeLine ∧ tJs ts (acc ++ y) σ H1 Q) : tJs (t :: ts) acc σ H Q := h
theorem g_jnil {acc : Str} {σ : L2.St} {H : Hp} {Q : Str → Hp → Prop} (h : Q acc H) : tJs [] acc σ H Q := h
theorem g_fmt {te : TE} {σ : L2.St} {H : Hp} {Q : VK} (h : te σ H fun x H1 => (∃ y : Str, x = .str y ∧ y.length ≤ sizeLine ∧ Q (.str y) H1) ∨ ∃ i : Int, x = .int i ∧ i.natAbs.log2 < 1920 ∧ Q (.str (toString i)) H1) : tFmt te σ H Q := h
theorem write_step (C : Cn w K mg base) (k n : Nat) (hk : 1 ≤ k) {s1 s2 s3 : Sp} (F_write_thing : Fn P w K mg base CX0 k "write_thing" ["thing", "words"] s1) (F_write_all : Fn P w K mg base CX0 k "write_all" ["things", "words"] s2) (F_write_bodies : Fn P w K mg base CX0 k "write_bodies" ["bodies", "words"] s3)
    (h1 : ∀ m, n = m + 1 → ∀ vs H Q E, spW K m vs H Q E → s1 vs H Q E) (h2 : ∀ m, n = m + 2 → ∀ vs H Q E, spAll K m vs H Q E → s2 vs H Q E) (h3 : ∀ m, n = m + 3 → ∀ vs H Q E, spBods K m vs H Q E → s3 vs H Q E) :
    Fn P w K mg base CX0 (k + 1) "write_thing" ["thing", "words"] (spW K n) := C.f_write_thing fun fd F => by
  refine F.ok (CX := CX0) sc_write_thing (fun vs H Q E h => ?_) (fun cdv A outer s H vs Q E hr h => ?_)
  · obtain ⟨v, t, l, ws, rfl, _⟩ := h
    rfl
  · obtain ⟨v, t, l, ws, rfl, rep, tx, wh, el, sz, q⟩ := h
    refine ⟨_, PSs.nox (pss_one (ps_match (pv 0) (pcs_case (sl := [some 2]) (by rfl) sc_write_thing.nd rfl (CapOk.cap rfl (Or.inl rfl) (Or.inr rfl) CapOk.nil) (pss_one (ps_expr (pe_bm PySem.F.plainAttrs_list PySem.F.slot_list_append PySem.F.type_list_append mt_append (pv 1) (pa_cons (pe_callTy call_str_int (by rfl) (C.m_str) (by decide +kernel) (pa_cons (pv 2) pa_nil)) pa_nil)))) (pcs_case (sl := [some 3]) (by rfl) sc_write_thing.nd rfl (CapOk.cap rfl (Or.inl rfl) (Or.inr rfl) CapOk.nil) (pss_one (ps_expr (pe_bm PySem.F.plainAttrs_list PySem.F.slot_list_append PySem.F.type_list_append mt_append (pv 1) (pa_cons (pe_joined (.cons pe_str (.cons (pe_fmt (pv 3)) .nil))) pa_nil)))) (pcs_case (sl := [some 4, some 5]) (by rfl) sc_write_thing.nd rfl (CapOk.cap rfl (Or.inl rfl) (Or.inr rfl) (CapOk.cap rfl (Or.inl rfl) (Or.inr rfl) CapOk.nil)) (pss_cons (ps_expr (pe_bm PySem.F.plainAttrs_list PySem.F.slot_list_extend PySem.F.type_list_extend mt_extend (pv 1) (pa_cons (pe_lstC (pa_cons pe_str (pa_cons (pe_callTy call_str_int (by rfl) (C.m_str) (by decide +kernel) (pa_cons (pv 4) pa_nil)) (pa_cons (pe_callTy call_str_int (by rfl) (C.m_str) (by decide +kernel) (pa_cons (pe_callB call_len_seq (by rfl) (C.m_len) PySem.boot_len (pa_cons (pv 5) pa_nil)) pa_nil)) pa_nil)))) pa_nil)))
      (pss_one (ps_expr (pe_fn F_write_all (rmm hr) (by rfl) pass0 (pa_cons (pv 5) (pa_cons (pv 1) pa_nil)))))) (pcs_case (sl := [some 3, some 6]) (by rfl) sc_write_thing.nd rfl (CapOk.cap rfl (Or.inl rfl) (Or.inr rfl) (CapOk.cap rfl (Or.inl rfl) (Or.inr rfl) CapOk.nil)) (pss_cons (ps_expr (pe_bm PySem.F.plainAttrs_list PySem.F.slot_list_extend PySem.F.type_list_extend mt_extend (pv 1) (pa_cons (pe_lstC (pa_cons pe_str (pa_cons (pe_callTy call_str_int (by rfl) (C.m_str) (by decide +kernel) (pa_cons (pv 3) pa_nil)) pa_nil))) pa_nil)))
      (pss_one (ps_expr (pe_fn F_write_thing (rmm hr) (by rfl) pass0 (pa_cons (pv 6) (pa_cons (pv 1) pa_nil)))))) (pcs_starA (i := 7) (j := 8) (by rfl) sc_write_thing.nd rfl (Or.inl rfl) (Or.inr rfl) rfl (Or.inl rfl) (Or.inr rfl) (pss_cons (ps_expr (pe_bm PySem.F.plainAttrs_list PySem.F.slot_list_append PySem.F.type_list_append mt_append (pv 1) (pa_cons (pe_ix ix_tup (pv 0) pe_int (fun _ _ => rfl)) pa_nil)))
      (pss_cons (ps_expr (pe_fn F_write_thing (rmm hr) (by rfl) pass0 (pa_cons (pv 7) (pa_cons (pv 1) pa_nil))))
      (pss_one (ps_expr (pe_fn F_write_bodies (rmm hr) (by rfl) pass0 (pa_cons (pv 8) (pa_cons (pv 1) pa_nil))))))) (pcs_starB (i := 9) (j := 5) (by rfl) sc_write_thing.nd rfl (Or.inl rfl) (Or.inr rfl) rfl (Or.inl rfl) (Or.inr rfl) (pss_cons (ps_expr (pe_bm PySem.F.plainAttrs_list PySem.F.slot_list_append PySem.F.type_list_append mt_append (pv 1) (pa_cons (pv 9) pa_nil)))
      (pss_one (ps_expr (pe_fn F_write_all (rmm hr) (by rfl) pass0 (pa_cons (pv 5) (pa_cons (pv 1) pa_nil)))))))))))))), ?_⟩
    obtain ⟨a, us, rfl, hS, rs⟩ := thing1 rep
    have hz0 : (List.map V.str ws).length < sizeLine := by rw [List.length_map, sizeLine_eq]; omega
    walk_at "go"
    refine g_match ?_
    walk_at "g"
    have pl : plainT t ∨ (∃ i, t = .p (.num i)) ∨ (∃ i, t = .p (.name i)) ∨ (∃ f ps, t = .p (.call f ps)) ∨ (∃ i p, t = .d (.set i p)) ∨ (∃ p x y, t = .d (.ite p x y)) ∨ (∃ p x, t = .d (.whl p x)) := by
      cases t with
      | p p => cases p <;> simp [plainT]
      | d d => cases d <;> simp [plainT]
    rcases pl with pl | ⟨i, rfl⟩ | ⟨i, rfl⟩ | ⟨f, ps, rfl⟩ | ⟨i, p, rfl⟩ | ⟨p, x, y, rfl⟩ | ⟨p, x, rfl⟩
    · obtain ⟨w1, w2, w3, w4, w5⟩ := plain_wd pl
      obtain ⟨e1, e2⟩ := plain_parts pl
      have okp := plain_ok pl tx
      have wp := whT_pos t
      refine case_no hS (wd_ne w1) (case_no hS (wd_ne w2) (case_no hS (wd_ne w3) (case_no hS (wd_ne w4) ?_)))
      obtain ⟨x0, xs0, rfl⟩ : ∃ x0 xs0, us = x0 :: xs0 := by
        cases us with
        | nil =>
          rw [e1] at rs
          have := rs.len
          cases t with
          | p p => cases p <;> first | exact pl.elim | simp [innerT, innerP, encPs] at this
          | d d => cases d <;> first | exact pl.elim | simp [innerT, innerD, encPs] at this
        | cons a r => exact ⟨a, r, rfl⟩
      have lr := rs.len
      have l4 : (restT t).length ≤ 3 := by rw [← plT_len]; exact plT_len3 t
      simp only [List.length_cons] at lr
      refine ⟨a, _, _, _, rfl, hS, by omega, ?_⟩
      rw [w5, if_neg Bool.false_ne_true]
      refine ⟨a, _, _, rfl, hS, by simp; omega, fun b nb => ?_⟩
      have c1 : Ch K [] H (upd H b (.lst (x0 :: xs0))) := Ch.new nb
      have e3 : (upd H b (.lst (x0 :: xs0))) b = some (.lst (x0 :: xs0)) := upd_same
      generalize upd H b (.lst (x0 :: xs0)) = H1 at c1 e3 ⊢
      have el1 := c1.up _ _ el (by simp)
      have nbl : b ≠ l := fun e => by rw [e, el] at nb; cases nb
      walk_at "g"
      have c2 : Ch K [l] H1 (upd H1 l (.lst (ws.map V.str ++ [V.str (wdT t)]))) := Ch.wrL el1 (by simp)
      have e4 : (upd H1 l (.lst (ws.map V.str ++ [V.str (wdT t)]))) l = some (.lst ((ws ++ [wdT t]).map V.str)) := by rw [upd_same, List.map_append]; rfl
      have e5 := c2.up _ _ e3 (by simpa using nbl)
      generalize upd H1 l (.lst (ws.map V.str ++ [V.str (wdT t)])) = H2 at c2 e4 e5 ⊢
      have c12 := (c1.mono (S' := [l]) (by simp)).trans c2
      walk_at "g"
      rw [e2] at sz q
      rw [e1, encPs_map] at rs
      refine h2 (n - 2) (by omega) _ _ _ _ ⟨b, _, (innerT t).map Th.p, l, ws ++ [wdT t], rfl, .inl ⟨SqL.of e5, nbl⟩, rs.kt c12.kt, fun t2 ht2 => ?_, e4, ?_, fun H3 c3 e6 => ?_⟩
      · obtain ⟨p2, hp2, rfl⟩ := List.mem_map.mp ht2
        have := okp p2 hp2
        exact ⟨this.1, by show 2 * dpP p2 ≤ _; omega⟩
      · rw [xTs_ps, List.length_append]
        simp only [List.length_cons, List.length_nil] at sz ⊢
        omega
      · walk_at "g"
        refine q _ (c12.trans c3) ?_
        rw [e6, xTs_ps]
        simp [ww]
    · obtain ⟨v1, vs2, rfl, r1, rs2⟩ := rs.consI
      obtain rfl := r1.intI
      obtain rfl := rs2.nilI
      refine case_yes hS rfl ?_
      walk_at "g"
      refine ⟨log_ok tx.1 tx.2, ?_⟩
      walk_at "g"
      refine q _ (Ch.wrL el (by simp)) ?_
      rw [upd_same]
      simp [xT, xp, ww, wn]
    · obtain ⟨v1, vs2, rfl, r1, rs2⟩ := rs.consI
      obtain rfl := r1.intI
      obtain rfl := rs2.nilI
      have i8 : i < 8 := tx
      refine case_no hS (wd_ne (by simp only [wdT]; decide +kernel)) (case_yes hS rfl ?_)
      walk_at "g"
      have w1 := wlen (okS_nat (n := i) (by omega))
      have e0 : (Str.empty ++ Str.ofString "n" : Str) = "n" := by decide +kernel
      refine g_jcons ?_
      walk_at "g"
      refine ⟨by rw [e0, sizeLine_eq]; decide +kernel, g_jcons (g_fmt ?_)⟩
      walk_at "g"
      refine ⟨log_ok (by omega) (by omega), _, rfl, ?_, g_jnil ?_⟩
      · rw [e0, S_len, len_n, sizeLine_eq]
        have : (toString (i : Int) : Str).length ≤ 8 := w1
        omega
      · walk_at "g"
        refine q _ (Ch.wrL el (by simp)) ?_
        rw [upd_same, e0]
        simp [xT, xp, ww, wn]
    · obtain ⟨v1, vs2, rfl, r1, rs2⟩ := rs.consI
      obtain ⟨v2, vs3, rfl, r2, rs3⟩ := rs2.consI
      obtain rfl := r1.intI
      obtain rfl := rs3.nilI
      obtain ⟨pb, ub, rfl, hpb, rb⟩ := r2.tupI
      have f8 := tx.1
      have l4 := tx.2.1
      have lu : ub.length = ps.length := by rw [rb.len, encPs_len]
      have lsz : (xp (.call f ps)).length = (xps ps).length + 3 := by simp [xp]
      have whc : 2 * (1 + dpPs ps) ≤ n := wh
      simp only [xT] at sz q
      refine case_no hS (wd_ne (by simp only [wdT]; decide +kernel)) (case_no hS (wd_ne (by simp only [wdT]; decide +kernel)) (case_yes hS rfl ?_))
      walk_at "g"
      refine ⟨log_ok (by omega) (by omega), ?_⟩
      walk_at "g"
      rw [lu]
      refine ⟨log_ok (by omega) (by omega), ?_⟩
      walk_at "g"
      refine ⟨szle (by simp), fun e H1 n1 e1 c1 => ?_⟩
      have el1 := c1.up _ _ el (by simp)
      walk_at "g"
      refine ⟨l, e, _, _, rfl, rfl, el1, e1, by rw [List.length_map, sizeLine_eq]; simp; omega, ?_⟩
      have c2 : Ch K [l] H1 (upd H1 l (.lst (ws.map V.str ++ [V.str "call", V.str (Str.ofString (toString ((f : Nat) : Int))), V.str (Str.ofString (toString ((ps.length : Nat) : Int)))]))) := Ch.wrL el1 (by simp)
      have e4 : (upd H1 l (.lst (ws.map V.str ++ [V.str "call", V.str (Str.ofString (toString ((f : Nat) : Int))), V.str (Str.ofString (toString ((ps.length : Nat) : Int)))]))) l = some (.lst ((ws ++ [("call" : Str), wn f, wn ps.length]).map V.str)) := by rw [upd_same, List.map_append]; rfl
      generalize upd H1 l (.lst (ws.map V.str ++ [V.str "call", V.str (Str.ofString (toString ((f : Nat) : Int))), V.str (Str.ofString (toString ((ps.length : Nat) : Int)))])) = H2 at c2 e4 ⊢
      have c12 := (c1.mono (S' := [l]) (by simp)).trans c2
      walk_at "g"
      rw [encPs_map] at rb
      refine h2 (n - 2) (by omega) _ _ _ _ ⟨pb, ub, ps.map Th.p, l, _, rfl, .inr (c12.sqT hpb), rb.kt c12.kt, fun t2 ht2 => ?_, e4, ?_, fun H3 c3 e6 => ?_⟩
      · obtain ⟨p2, hp2, rfl⟩ := List.mem_map.mp ht2
        have := dpPs_all hp2
        exact ⟨txPs_all tx.2.2 p2 hp2, by show 2 * dpP p2 ≤ _; omega⟩
      · rw [xTs_ps, List.length_append]
        simp only [List.length_cons, List.length_nil]
        omega
      · walk_at "g"
        refine q _ (c12.trans c3) ?_
        rw [e6, xTs_ps]
        simp [ww, xp]
    · obtain ⟨v1, vs2, rfl, r1, rs2⟩ := rs.consI
      obtain ⟨v2, vs3, rfl, r2, rs3⟩ := rs2.consI
      obtain rfl := r1.intI
      obtain rfl := rs3.nilI
      have i8 := tx.1
      have lsz : (xd (.set i p)).length = (xp p).length + 2 := by simp [xd]
      have whc : 3 + 2 * dpP p ≤ n := by have h : whT (.d (.set i p)) ≤ n := wh; simp only [whT, whD] at h; exact h
      simp only [xT] at sz q
      refine case_no hS (wd_ne (by simp only [wdT]; decide +kernel)) (case_no hS (wd_ne (by simp only [wdT]; decide +kernel)) (case_no hS (wd_ne (by simp only [wdT]; decide +kernel)) (case_yes hS rfl ?_)))
      walk_at "g"
      refine ⟨log_ok (by omega) (by omega), ?_⟩
      walk_at "g"
      refine ⟨szle (by simp), fun e H1 n1 e1 c1 => ?_⟩
      have el1 := c1.up _ _ el (by simp)
      walk_at "g"
      refine ⟨l, e, _, _, rfl, rfl, el1, e1, by rw [List.length_map, sizeLine_eq]; simp; omega, ?_⟩
      have c2 : Ch K [l] H1 (upd H1 l (.lst (ws.map V.str ++ [V.str "set", V.str (Str.ofString (toString ((i : Nat) : Int)))]))) := Ch.wrL el1 (by simp)
      have e4 : (upd H1 l (.lst (ws.map V.str ++ [V.str "set", V.str (Str.ofString (toString ((i : Nat) : Int)))]))) l = some (.lst ((ws ++ [("set" : Str), wn i]).map V.str)) := by rw [upd_same, List.map_append]; rfl
      generalize upd H1 l (.lst (ws.map V.str ++ [V.str "set", V.str (Str.ofString (toString ((i : Nat) : Int)))])) = H2 at c2 e4 ⊢
      have c12 := (c1.mono (S' := [l]) (by simp)).trans c2
      walk_at "g"
      refine h1 (n - 1) (by omega) _ _ _ _ ⟨v2, .p p, l, _, rfl, r2.kt c12.kt, tx.2, by show 2 * dpP p ≤ _; omega, e4, ?_, fun H3 c3 e6 => ?_⟩
      · rw [List.length_append]
        simp only [List.length_cons, List.length_nil, xT]
        omega
      · walk_at "g"
        refine q _ (c12.trans c3) ?_
        rw [e6]
        simp [ww, xd, xT]
    · obtain ⟨v1, vs2, rfl, r1, rs2⟩ := rs.consI
      have wh' : 3 + max (2 * dpP p) (max (whB x) (whB y)) ≤ n := by have h : whT (.d (.ite p x y)) ≤ n := wh; simp only [whT, whD] at h; exact h
      simp only [xT] at sz q
      refine case_no hS (wd_ne (by simp only [wdT]; decide +kernel)) (case_no hS (wd_ne (by simp only [wdT]; decide +kernel)) (case_no hS (wd_ne (by simp only [wdT]; decide +kernel)) (case_no hS (wd_ne (by simp only [wdT]; decide +kernel)) ?_)))
      have lv := rs2.len
      refine ⟨a, _, _, _, rfl, hS, by rw [lv]; simp, ?_⟩
      rw [if_pos (by rfl)]
      intro b nb
      have c1 : Ch K [] H (upd H b (.lst vs2)) := Ch.new nb
      have e3 : (upd H b (.lst vs2)) b = some (.lst vs2) := upd_same
      generalize upd H b (.lst vs2) = H1 at c1 e3 ⊢
      have el1 := c1.up _ _ el (by simp)
      have hS1 := c1.sqT hS
      have nbl : b ≠ l := fun e => by rw [e, el] at nb; cases nb
      have h0 : atI (V.str (wdT (.d (.ite p x y))) :: v1 :: vs2) 0 = some (V.str (wdT (.d (.ite p x y)))) := atI_nat (j := 0) rfl
      walk_at "g"
      have c2 : Ch K [l] H1 (upd H1 l (.lst (ws.map V.str ++ [V.str (wdT (.d (.ite p x y)))]))) := Ch.wrL el1 (by simp)
      have e4 : (upd H1 l (.lst (ws.map V.str ++ [V.str (wdT (.d (.ite p x y)))]))) l = some (.lst ((ws ++ [wdT (.d (.ite p x y))]).map V.str)) := by rw [upd_same, List.map_append]; rfl
      have e5 := c2.up _ _ e3 (by simpa using nbl)
      generalize upd H1 l (.lst (ws.map V.str ++ [V.str (wdT (.d (.ite p x y)))])) = H2 at c2 e4 e5 ⊢
      have c12 := (c1.mono (S' := [l]) (by simp)).trans c2
      have lsz : (xd (.ite p x y)).length = (xp p).length + (xBods [x, y]).length + 2 := by simp [xd, xBods]; omega
      walk_at "g"
      refine h1 (n - 1) (by omega) _ _ _ _ ⟨v1, .p p, l, _, rfl, r1.kt c12.kt, tx.1, by show 2 * dpP p ≤ _; omega, e4, ?_, fun H3 c3 e6 => ?_⟩
      · rw [List.length_append]
        simp only [List.length_cons, List.length_nil, xT]
        omega
      · walk_at "g"
        refine h3 (n - 3) (by omega) _ _ _ _ ⟨b, _, [x, y], l, _, rfl, SqL.of (c3.up _ _ e5 (by simpa using nbl)), nbl, rs2.kt (c12.trans c3).kt, fun b2 hb2 => ?_, e6, ?_, fun H4 c4 e7 => ?_⟩
        · simp only [List.mem_cons, List.not_mem_nil, or_false] at hb2
          rcases hb2 with rfl | rfl
          · exact ⟨tx.2.1, by omega⟩
          · exact ⟨tx.2.2, by omega⟩
        · rw [List.length_append, List.length_append, ww_len]
          simp only [List.length_cons, List.length_nil, xT]
          omega
        · walk_at "g"
          refine q _ ((c12.trans c3).trans c4) ?_
          rw [e7]
          simp [ww, xd, xT, xBods, wdT]
    · obtain ⟨v1, vs2, rfl, r1, rs2⟩ := rs.consI
      have wh' : 3 + max (2 * dpP p) (whB x) ≤ n := by have h : whT (.d (.whl p x)) ≤ n := wh; simp only [whT, whD] at h; exact h
      simp only [xT] at sz q
      refine case_no hS (wd_ne (by simp only [wdT]; decide +kernel)) (case_no hS (wd_ne (by simp only [wdT]; decide +kernel)) (case_no hS (wd_ne (by simp only [wdT]; decide +kernel)) (case_no hS (wd_ne (by simp only [wdT]; decide +kernel)) ?_)))
      have lv := rs2.len
      refine ⟨a, _, _, _, rfl, hS, by rw [lv]; simp, ?_⟩
      rw [if_pos (by rfl)]
      intro b nb
      have c1 : Ch K [] H (upd H b (.lst vs2)) := Ch.new nb
      have e3 : (upd H b (.lst vs2)) b = some (.lst vs2) := upd_same
      generalize upd H b (.lst vs2) = H1 at c1 e3 ⊢
      have el1 := c1.up _ _ el (by simp)
      have hS1 := c1.sqT hS
      have nbl : b ≠ l := fun e => by rw [e, el] at nb; cases nb
      have h0 : atI (V.str (wdT (.d (.whl p x))) :: v1 :: vs2) 0 = some (V.str (wdT (.d (.whl p x)))) := atI_nat (j := 0) rfl
      walk_at "g"
      have c2 : Ch K [l] H1 (upd H1 l (.lst (ws.map V.str ++ [V.str (wdT (.d (.whl p x)))]))) := Ch.wrL el1 (by simp)
      have e4 : (upd H1 l (.lst (ws.map V.str ++ [V.str (wdT (.d (.whl p x)))]))) l = some (.lst ((ws ++ [wdT (.d (.whl p x))]).map V.str)) := by rw [upd_same, List.map_append]; rfl
      have e5 := c2.up _ _ e3 (by simpa using nbl)
      generalize upd H1 l (.lst (ws.map V.str ++ [V.str (wdT (.d (.whl p x)))])) = H2 at c2 e4 e5 ⊢
      have c12 := (c1.mono (S' := [l]) (by simp)).trans c2
      have lsz : (xd (.whl p x)).length = (xp p).length + (xBods [x]).length + 2 := by simp [xd, xBods]; omega
      walk_at "g"
      refine h1 (n - 1) (by omega) _ _ _ _ ⟨v1, .p p, l, _, rfl, r1.kt c12.kt, tx.1, by show 2 * dpP p ≤ _; omega, e4, ?_, fun H3 c3 e6 => ?_⟩
      · rw [List.length_append]
        simp only [List.length_cons, List.length_nil, xT]
        omega
      · walk_at "g"
        refine h3 (n - 3) (by omega) _ _ _ _ ⟨b, _, [x], l, _, rfl, SqL.of (c3.up _ _ e5 (by simpa using nbl)), nbl, rs2.kt (c12.trans c3).kt, fun b2 hb2 => ?_, e6, ?_, fun H4 c4 e7 => ?_⟩
        · simp only [List.mem_cons, List.not_mem_nil, or_false] at hb2
          subst hb2
          exact ⟨tx.2, by omega⟩
        · rw [List.length_append, List.length_append, ww_len]
          simp only [List.length_cons, List.length_nil, xT]
          omega
        · walk_at "g"
          refine q _ ((c12.trans c3).trans c4) ?_
          rw [e7]
          simp [ww, xd, xT, xBods, wdT]
theorem vac {x : Str} {ps : List Str} {sp : Sp} {k j : Nat} (F : Fn P w K mg base CX0 k x ps sp) : Fn P w K mg base CX0 j x ps (fun _ _ _ _ => False) := by
  obtain ⟨f, fd, a, b, c, d⟩ := F
  exact ⟨f, fd, ⟨fun _ _ _ _ h => h.elim, fun _ _ _ _ _ _ _ _ _ _ _ _ _ h => h.elim⟩, b, c, d⟩
end
end K3
end

section
set_option maxRecDepth 100000
set_option maxHeartbeats 1000000
open Bq L2
/-- one step of a reading; what is left are side goals and places to think -/
local macro_rules | `(tactic| walk_at "g1") => `(tactic| first
  | with_reducible refine' g_seq ?_ | with_reducible refine' g_asg ?_ | with_reducible refine' g_drop ?_ | with_reducible refine' g_ret ?_ | with_reducible refine' g_ifS ?_ | with_reducible refine' g_asgG ?_
  | ((with_reducible refine' g_var ?hv ?_); (case hv => rfl))
  | with_reducible refine' g_c ?_ | with_reducible refine' g_op ?_ | with_reducible refine' g_un ?_ | with_reducible refine' g_I0 ?_ | with_reducible refine' g_U ?_
  | with_reducible refine' g_test ?_ | with_reducible refine' g_tB ?_ | with_reducible refine Exists.intro _ (And.intro rfl ?_) 
  | ((with_reducible refine' g_andP ?ha ?hb ?_); (case ha => intro R q; walk_at "g"; exact q); (case hb => intro R q; walk_at "g"; exact q))
  | ((with_reducible refine' g_orP ?ha ?hb ?_); (case ha => intro R q; walk_at "g"; exact q); (case hb => intro R q; walk_at "g"; exact q))
  | with_reducible refine' g_and ?_ | with_reducible refine' g_or ?_ | with_reducible refine' g_not ?_
  | with_reducible refine' g_andV ?_ | with_reducible refine' g_orV ?_ | with_reducible refine' g_notV ?_ | with_reducible refine' g_if ?_ | with_reducible refine' g_nil ?_ | with_reducible refine' g_cons ?_
  | with_reducible refine' g_tup ?_ | with_reducible refine' g_lst ?_ | with_reducible refine' g_CB ?_ | with_reducible refine' g_Fn ?_ | with_reducible refine' g_next ?_ | with_reducible refine' g_retN ?_
  | with_reducible refine' g_name ?_ | with_reducible refine' g_sub ?_
  | ((with_reducible refine' g_ixL ?hs ?he ?_); (case hs => walk_at "lk"); (case he => walk_at "at"))
  | ((with_reducible refine' g_ixT ?hs ?he ?_); (case hs => walk_at "lk"); (case he => walk_at "at"))
  | ((with_reducible refine' g_setL ?hs ?he ?_); (case hs => walk_at "hp"); (case he => rfl))
  | ((with_reducible refine' g_app ?hs ?hz ?_); (case hs => walk_at "hp"); (case hz => walk_at "sz"))
  | ((with_reducible refine' ⟨_, _, rfl, Or.inl ?hs, ?_⟩); (case hs => walk_at "lk"))
  | ((with_reducible refine' ⟨_, _, rfl, Or.inr ?hs, ?_⟩); (case hs => walk_at "lk"))
  | with_reducible refine' g_BM ?_ | with_reducible refine' g_BM0 ?_ | ((with_reducible refine' g_tyL ?hs ?_); (case hs => walk_at "lk"))
  | with_reducible refine' g_sl ?_ | with_reducible refine' g_noPart ?_ | with_reducible refine' g_part ?_
  | ((with_reducible refine' g_inT ?hs ?fx ?fs ?_); (case hs => walk_at "lk"); (case fx => rfl); (case fs => rfl))
  | with_reducible refine' g_pair ?_ | with_reducible refine' g_pair0 ?_ | with_reducible refine' g_disp ?_
  | with_reducible refine' g_for ?_ | with_reducible refine' g_tupC ?_ | with_reducible refine' g_lstC ?_ | ((with_reducible refine' g_lens ?_)) | with_reducible refine' g_dg ?_ | with_reducible refine' g_lc ?_ | with_reducible refine' g_rng1 ?_ | with_reducible refine' g_ilist ?_ | with_reducible refine' g_itup ?_
  | ((with_reducible refine' ⟨_, _, rfl, ?hd, ?_⟩); (case hd => walk_at "dg"))
  | ((with_reducible refine' g_eqNil ?hs ?hz ?_); (case hs => walk_at "lk"); (case hz => walk_at "lk"))
  | ((with_reducible refine' g_neNil ?hs ?hz ?_); (case hs => walk_at "lk"); (case hz => walk_at "lk"))
  | with_reducible refine Or.inl ⟨_, rfl, ?_⟩
  | with_reducible refine Or.inr ⟨_, rfl, ?_⟩
  | ((with_reducible refine' g_eq ?hs ?_); (case hs => rfl))
  | ((with_reducible refine' g_ne ?hs ?_); (case hs => rfl))
  | ((with_reducible refine' g_I ?hc ?_); (case hc => walk_at "ar")))
/-- arithmetic's side conditions -/
local macro_rules | `(tactic| walk_at "ar") => `(tactic| (first
  | (show (0 : Int) < _; first | omega | decide) | (show (0 : Int) < _ ∧ _; constructor <;> omega) | (show ¬ (_ : Int) = _; omega) | (show (_ : Int) ≠ _ ∧ _; constructor <;> omega)
  | (show (-(2 ^ 64) < _ ∧ _) ∨ _; (first | (left; constructor <;> omega) | (right; constructor <;> omega))) | (show (0 : Int) ≤ _ ∧ _ ∧ _; refine ⟨by omega, by omega, by decide⟩)))
/-- what stands at an index -/
local macro_rules | `(tactic| walk_at "at") => `(tactic| first | rfl | assumption)
/-- what stands at an address -/
local macro_rules | `(tactic| walk_at "hp") => `(tactic| first | assumption | exact upd_same | ((refine' Eq.trans (upd_ne ?hn) ?hm); (case hm => walk_at "hp"); (case hn => walk_at "ne")))
/-- two places are two -/
local macro_rules | `(tactic| walk_at "ne") => `(tactic| first
  | assumption | exact Ne.symm (by assumption)
  | ((refine' ne_of_none ?ha ?hb); (case hb => assumption); (case ha => walk_at "hp")) | ((refine' Ne.symm (ne_of_none ?ha ?hb)); (case hb => assumption); (case ha => walk_at "hp")))
/-- what a dict tells -/
local macro_rules | `(tactic| walk_at "dg") => `(tactic| first | assumption)
/-- a length -/
local macro_rules | `(tactic| walk_at "sz") => `(tactic| first | (show _ ≤ sizeLine; decide) | (show _ < sizeLine; decide) | assumption | exact szlt (by simp) | exact szle (by simp))
/-- a list or tuple that stands -/
local macro_rules | `(tactic| walk_at "lk") => `(tactic| first | assumption | exact SqL.of (by assumption) | exact SqT.of (by assumption) | exact SqL.of upd_same | exact SqT.of upd_same | (refine' FzL.sq ?hm; (case hm => walk_at "fz")))
/-- a list that nobody writes -/
local macro_rules | `(tactic| walk_at "fz") => `(tactic| first | assumption | ((refine' FzL.uw ?hm ?hx); (case hx => walk_at "hp"); (case hm => walk_at "fz")) | ((refine' FzL.nw ?hm ?hx); (case hx => assumption); (case hm => walk_at "fz")))
/-- as far as it goes by itself -/
local macro_rules | `(tactic| walk_at "g") => `(tactic| repeat walk_at "g1")
/-- the body's reading, its places in short -/
local macro_rules | `(tactic| walk_at "go") => `(tactic| ((try dsimp only [cxOf, Cx.nox, Cx.wish]); walk_at "g"))
namespace K3
open PySem PySem.Spec PyProof.Rows L2 Bq
section
variable {P : Program} {w : World} {K : PySem.W.Frag} {mg : Str → Option Value} {base : Heap}
/-- further steps: dicts written, tuples taken apart -/
local macro_rules | `(tactic| walk_at "g1") => `(tactic| first
  | with_reducible refine' g_sdput ?_
  | ((with_reducible refine' g_gtup ?hs ?hl ?_); (case hs => walk_at "lk"); (case hl => rfl))
  | with_reducible refine' g_gcons ?_
  | with_reducible refine' g_gnil ?_
  | with_reducible refine' And.intro (Eq.refl V.non) ?_
  | with_reducible refine' g_isN ?_
  | ((with_reducible refine' g_chainR ?ha ?hb ?hc ?_); (case ha => intro R q; walk_at "g"; exact q); (case hb => intro R q; walk_at "g"; exact q); (case hc => intro R q; walk_at "g"; exact q))
  | with_reducible refine' g_notN ?_)
/-- what the law's dict tells -/
local macro_rules | `(tactic| walk_at "dg") => `(tactic| first
  | assumption
  | exact LH.gfuns (by assumption)
  | exact LH.gsaid (by assumption)
  | exact LH.gcells (by assumption)
  | exact LH.gfuel (by assumption)
  | exact LH.gend (by assumption)
  | exact LH.gcalls (by assumption)
  | exact LH.gnames (by assumption)
  | exact LH.gwaits (by assumption)
  | exact LH.gworth (by assumption)
  | exact LH.glook (by assumption))
/-- a test that fails, that holds, by itself -/
local macro_rules | `(tactic| walk_at "no") => `(tactic| ((refine tkF rfl ?_); walk_at "g"))
local macro_rules | `(tactic| walk_at "yes") => `(tactic| ((refine tkT rfl ?_); walk_at "g"))
local macro_rules | `(tactic| walk_at "g1") => `(tactic| first
  | with_reducible refine' g_catS ?_
  | with_reducible refine' g_mulS ?_
  | with_reducible refine' g_rev ?_)
/-- texts: methods, signs, slices -/
local macro_rules | `(tactic| walk_at "g1") => `(tactic| first
  | with_reducible refine' g_tm0 ?_
  | with_reducible refine' g_tm1 ?_
  | with_reducible refine' g_isdig ?_
  | with_reducible refine' g_isasc ?_
  | with_reducible refine' g_starts ?_
  | with_reducible refine' g_str0 ?_
  | with_reducible refine' g_revL ?_
  | with_reducible refine' g_nilTrue ?_
  | with_reducible refine' g_chainT ?_)
theorem fn_write (C : Cn w K mg base) : ∀ n : Nat, Fn P w K mg base CX0 (n + 2) "write_thing" ["thing", "words"] (spW K n) := by
  have vT : ∀ j, Fn P w K mg base CX0 j "write_thing" ["thing", "words"] (fun _ _ _ _ => False) := fun j => C.f_write_thing fun fd F => ⟨fun _ _ _ _ h => h.elim, fun _ _ _ _ _ _ _ _ _ _ _ _ _ h => h.elim⟩
  have vA : ∀ j, Fn P w K mg base CX0 j "write_all" ["things", "words"] (fun _ _ _ _ => False) := fun j => C.f_write_all fun fd F => ⟨fun _ _ _ _ h => h.elim, fun _ _ _ _ _ _ _ _ _ _ _ _ _ h => h.elim⟩
  have vB : ∀ j, Fn P w K mg base CX0 j "write_bodies" ["bodies", "words"] (fun _ _ _ _ => False) := fun j => C.f_write_bodies fun fd F => ⟨fun _ _ _ _ h => h.elim, fun _ _ _ _ _ _ _ _ _ _ _ _ _ h => h.elim⟩
  intro n
  induction n using Nat.strongRecOn with
  | _ n ih =>
    match n, ih with
    | 0, _ => exact write_step C 1 0 (by decide) (vT 1) (vA 1) (vB 1) (fun m h => by omega) (fun m h => by omega) (fun m h => by omega)
    | 1, ih => exact write_step C 2 1 (by decide) (ih 0 (by decide)) (vA 2) (vB 2) (fun m h vs H Q E k => by obtain rfl : m = 0 := (by omega); exact k) (fun m h => by omega) (fun m h => by omega)
    | 2, ih => exact write_step C 3 2 (by decide) (ih 1 (by decide)) (fn_all C 0 (ih 0 (by decide))) (vB 3) (fun m h vs H Q E k => by obtain rfl : m = 1 := (by omega); exact k) (fun m h vs H Q E k => by obtain rfl : m = 0 := (by omega); exact k) (fun m h => by omega)
    | n + 3, ih => exact write_step C (n + 4) (n + 3) (by omega) (ih (n + 2) (by omega)) (fn_all C (n + 1) (ih (n + 1) (by omega))) (fn_bods C n (fn_all C n (ih n (by omega)))) (fun m h vs H Q E k => by obtain rfl : m = n + 2 := (by omega); exact k) (fun m h vs H Q E k => by obtain rfl : m = n + 1 := (by omega); exact k) (fun m h vs H Q E k => by obtain rfl : m = n := (by omega); exact k)
mutual
theorem whD_wf {nm : Nat} {ps : List Nat} : ∀ {m : Nat} {d : Dd}, wfD nm ps m d → whD d ≤ 3 * m + 86
  | _, .set i p, h => by have := dpP_sz p; have := h.2.2; simp only [whD]; omega
  | _, .put c p, h => by have := dpP_sz p; have := dpP_sz c; have := h.2.2; simp only [whD]; omega
  | _, .say p, h => by have := dpP_sz p; have := h.2; simp only [whD]; omega
  | m, .ite p a b, h => by have := dpP_sz p; have := h.2.1; have := whB_wf h.2.2.1; have := whB_wf h.2.2.2; simp only [whD]; omega
  | m, .whl p b, h => by have := dpP_sz p; have := h.2.1; have := whB_wf h.2.2; simp only [whD]; omega
  | _, .ret p, h => by have := dpP_sz p; have := h.2; simp only [whD]; omega
  | _, .dop p, h => by have := dpP_sz p; have := h.2; simp only [whD]; omega
theorem whB_wf {nm : Nat} {ps : List Nat} : ∀ {n : Nat} {b : List Dd}, wfBs nm ps n b → whB b ≤ 3 * n + 83
  | _, [], _ => by simp only [whB]; omega
  | 0, _ :: _, h => h.elim
  | n + 1, d :: r, h => by have := whD_wf h.1; have := whB_wf h.2; simp only [whB]; omega
end
theorem wfpr_ps {fs : List Fu} (W : WfPr fs) : (fs.map Fu.ps).length ≤ 8 ∧ ∀ n ∈ fs.map Fu.ps, n ≤ 4 := by
  refine ⟨by rw [List.length_map]; exact W.n8, fun n hn => ?_⟩
  obtain ⟨f, hf, rfl⟩ := List.mem_map.mp hn
  exact (W.all f hf).p4
theorem wfpr_tx {fs : List Fu} (W : WfPr fs) {f : Fu} (hf : f ∈ fs) : txB f.body := txB_of (W.all f hf).n8 (wfpr_ps W).1 (wfpr_ps W).2 (W.all f hf).wb
theorem xfs_app : ∀ a b : List Fu, xfs (a ++ b) = xfs a ++ xfs b
  | [], _ => rfl
  | p :: r, b => by
    show xf p ++ xfs (r ++ b) = (xf p ++ xfs r) ++ xfs b
    rw [xfs_app r b, List.append_assoc]
theorem xfs_len : ∀ {fs : List Fu} {k : Nat}, (∀ f ∈ fs, szB f.body ≤ k) → (xfs fs).length ≤ (3 * k + 4) * fs.length
  | [], k, _ => by simp [xfs]
  | f :: r, k, h => by
    have h1 := xf_len f
    have h2 := h f (by simp)
    have h3 := xfs_len (fs := r) (k := k) fun g hg => h g (by simp [hg])
    simp only [xfs, List.length_append, List.length_cons, Nat.mul_add, Nat.mul_one]
    omega
theorem wfpr_len {fs : List Fu} (W : WfPr fs) : (xfs fs).length ≤ 5000 := by
  have h1 := xfs_len (fs := fs) (k := 190) fun f hf => (W.all f hf).sz
  have h2 := W.n8
  have h3 : (3 * 190 + 4) * fs.length ≤ (3 * 190 + 4) * 8 := Nat.mul_le_mul_left _ h2
  omega
theorem okW_fs {fs : List Fu} (W : WfPr fs) : okW (xfs fs) := by
  have : ∀ gs : List Fu, (∀ f ∈ gs, f ∈ fs) → okW (xfs gs) := by
    intro gs
    induction gs with
    | nil => intro _; exact okW_nil
    | cons f r ih =>
      intro h
      have hf := h f (by simp)
      have w := W.all f hf
      refine okW_app ?_ (ih fun g hg => h g (by simp [hg]))
      exact okW_cons (okS_c (by decide +kernel)) (okW_cons (okS_nat (by have := w.p4; omega)) (okW_cons (okS_nat (by have := w.n8; omega)) (okW_app (okW_b (wfpr_tx W hf)) okW_E)))
  exact this fs fun f h => h
theorem sum_le8 : ∀ {l : List Str}, (∀ w ∈ l, w.length ≤ 8) → (l.map (·.length)).sum ≤ 8 * l.length
  | [], _ => by simp
  | a :: r, h => by
    have := sum_le8 (l := r) fun w hw => h w (by simp [hw])
    have := h a (by simp)
    simp only [List.map_cons, List.sum_cons, List.length_cons]
    omega
theorem encF_at {fs : List Fu} {i : Nat} {t : T} (h : (fs.map encF)[i]? = some t) : ∃ f, fs[i]? = some f ∧ t = encF f := by
  rw [List.getElem?_map] at h
  cases e : fs[i]? with
  | none => rw [e] at h; cases h
  | some f => rw [e] at h; exact ⟨f, rfl, (Option.some.inj h).symm⟩
def spWritten (K : PySem.W.Frag) : Sp := fun vs H Q _ => ∃ v fs, vs = [v] ∧ Rep K H v (.tup (fs.map encF)) ∧ WfPr fs ∧ ∀ H', Ch K [] H H' → Q (.str (jn (ww (xfs fs)))) H'
theorem fn_written (C : Cn w K mg base) : Fn P w K mg base CX0 112 "written" ["program"] (spWritten K) := C.f_written fun fd F => by
  have F_check_program : Fn P w K mg base CX0 6 "check_program" ["program"] (spCheck K) := fn_check C
  have F_write_all : Fn P w K mg base CX0 110 "write_all" ["things", "words"] (spAll K 107) := fn_all C 107 (fn_write C 107)
  refine F.ok (CX := CX0) sc_written (fun vs H Q E h => ?_) (fun cdv A outer s H vs Q E hr h => ?_)
  · obtain ⟨v, fs, rfl, _⟩ := h
    rfl
  · obtain ⟨v, fs, rfl, rep, W, q⟩ := h
    refine ⟨_, PSs.nox (pss_cons (ps_expr (pe_fn F_check_program (rmm hr) (by rfl) pass0 (pa_cons (pv 0) pa_nil)))
      (pss_cons (ps_set (i := 1) sc_written.nd rfl (Or.inl rfl) (pe_lstC pa_nil))
      (pss_cons (ps_for PassesOwn.never rfl (pi_tup (pv 0)) (pg_tup rfl (pgs_cons (pg_name (i := 2) sc_written.nd rfl (Or.inl rfl)) (pgs_cons (pg_name (i := 3) sc_written.nd rfl (Or.inl rfl)) (pgs_cons (pg_name (i := 4) sc_written.nd rfl (Or.inl rfl)) pgs_nil)))) (pss_cons (ps_expr (pe_bm PySem.F.plainAttrs_list PySem.F.slot_list_extend PySem.F.type_list_extend mt_extend (pv 1) (pa_cons (pe_lstC (pa_cons pe_str (pa_cons (pe_callTy call_str_int (by rfl) (C.m_str) (by decide +kernel) (pa_cons (pv 2) pa_nil)) (pa_cons (pe_callTy call_str_int (by rfl) (C.m_str) (by decide +kernel) (pa_cons (pv 3) pa_nil)) pa_nil)))) pa_nil)))
      (pss_cons (ps_expr (pe_fn F_write_all (rmm hr) (by rfl) pass0 (pa_cons (pv 4) (pa_cons (pv 1) pa_nil))))
      (pss_one (ps_expr (pe_bm PySem.F.plainAttrs_list PySem.F.slot_list_append PySem.F.type_list_append mt_append (pv 1) (pa_cons pe_str pa_nil)))))))
      (pss_one (ps_ret (pe_join pe_str (pv 1))))))), ?_⟩
    walk_at "go"
    refine ⟨_, fs, rfl, rep, W, fun H1 c1 => ?_⟩
    have rep1 := rep.kt c1.kt
    walk_at "g"
    refine ⟨szle (by simp), fun l H2 n2 e2 c2 => ?_⟩
    have c12 := c1.trans c2
    have lN := c1.free n2 (by simp)
    obtain ⟨ga, gvs, rfl, hga, rgs⟩ := (rep1.kt c2.kt).tupI
    have hl : gvs.length = fs.length := by rw [rgs.len, List.length_map]
    have xl := wfpr_len W
    walk_at "g"
    refine ⟨⟨_, hga⟩, for_it (walk_tup (xs := gvs)) (fun i σ H' => ∃ x2 x3 x4, σ = [some (.ref ga), some (.ref l), x2, x3, x4] ∧ Ch K [l] H2 H' ∧ H' l = some (.lst ((ww (xfs (fs.take i))).map V.str))) ⟨none, none, none, rfl, Ch.refl, e2⟩ (fun i σ H' _ ⟨_, _, _, _, c, _⟩ => c.sqT hga) ?_ ?_⟩
    · rintro i x σ H3 _ hi ⟨x2, x3, x4, rfl, c3, e3⟩ ⟨rfl, hx⟩
      obtain ⟨t, ht, rt⟩ := rgs.get hx
      obtain ⟨f, hf, rfl⟩ := encF_at ht
      have wf := W.all f (List.mem_of_getElem? hf)
      have tf := wfpr_tx W (List.mem_of_getElem? hf)
      obtain ⟨p4, pn, n8, wb, sz⟩ := wf
      obtain ⟨fa, fvs, rfl, hfa, rfv⟩ := (rt.kt c3.kt).tupI
      obtain ⟨v1, vs2, rfl, r1, rs2⟩ := rfv.consI
      obtain ⟨v2, vs3, rfl, r2, rs3⟩ := rs2.consI
      obtain ⟨v3, vs4, rfl, r3, rs4⟩ := rs3.consI
      obtain rfl := r1.intI
      obtain rfl := r2.intI
      obtain rfl := rs4.nilI
      obtain ⟨ba, bvs, rfl, hba, rbv⟩ := r3.tupI
      have hsz : (xfs (fs.take i)).length + (xf f).length ≤ 5000 := by
        have e0 : fs = fs.take i ++ f :: fs.drop (i + 1) := by
          obtain ⟨h1, h2⟩ := List.getElem?_eq_some_iff.mp hf
          rw [← h2, ← List.drop_eq_getElem_cons h1, List.take_append_drop]
        have : xfs fs = xfs (fs.take i) ++ (xf f ++ xfs (fs.drop (i + 1))) := (congrArg xfs e0).trans (xfs_app _ _)
        rw [this, List.length_append, List.length_append] at xl
        omega
      have hxf : (xf f).length = (xb f.body).length + 4 := by simp [xf]
      refine g_gtup hfa rfl ?_
      walk_at "g"
      refine ⟨log_ok (by omega) (by omega), ?_⟩
      walk_at "g"
      refine ⟨log_ok (by omega) (by omega), ?_⟩
      walk_at "g"
      refine ⟨szle (by simp), fun e H4 n4 e4 c4 => ?_⟩
      have el4 := c4.up _ _ e3 (by simp)
      walk_at "g"
      refine ⟨l, e, _, _, rfl, rfl, el4, e4, by rw [List.length_map, ww_len, sizeLine_eq]; simp; omega, ?_⟩
      have c5 : Ch K [l] H4 (upd H4 l (.lst ((ww (xfs (fs.take i))).map V.str ++ [V.str "fun", V.str (Str.ofString (toString ((f.ps : Nat) : Int))), V.str (Str.ofString (toString ((f.nm : Nat) : Int)))]))) := Ch.wrL el4 (by simp)
      have e5 : (upd H4 l (.lst ((ww (xfs (fs.take i))).map V.str ++ [V.str "fun", V.str (Str.ofString (toString ((f.ps : Nat) : Int))), V.str (Str.ofString (toString ((f.nm : Nat) : Int)))]))) l = some (.lst ((ww (xfs (fs.take i)) ++ [("fun" : Str), wn f.ps, wn f.nm]).map V.str)) := by rw [upd_same, List.map_append]; rfl
      generalize upd H4 l (.lst ((ww (xfs (fs.take i))).map V.str ++ [V.str "fun", V.str (Str.ofString (toString ((f.ps : Nat) : Int))), V.str (Str.ofString (toString ((f.nm : Nat) : Int)))])) = H5 at c5 e5 ⊢
      have c35 := (c4.mono (S' := [l]) (by simp)).trans c5
      walk_at "g"
      rw [encB_mapT] at rbv
      refine ⟨ba, bvs, f.body.map Th.d, l, _, rfl, .inr (c35.sqT hba), rbv.kt c35.kt, fun t2 ht2 => ?_, e5, ?_, fun H6 c6 e6 => ?_⟩
      · obtain ⟨d, hd, rfl⟩ := List.mem_map.mp ht2
        exact ⟨txB_all tf d hd, Nat.le_trans (whB_all hd) (whB_wf wb)⟩
      · rw [xTs_b, List.length_append, ww_len]
        simp only [List.length_cons, List.length_nil]
        omega
      · have hz6 : (List.map V.str (ww (xfs (List.take i fs)) ++ [("fun" : Str), wn f.ps, wn f.nm] ++ ww (xTs (List.map Th.d f.body)))).length < sizeLine := by
          rw [List.length_map, List.length_append, List.length_append, ww_len, ww_len, xTs_b, sizeLine_eq]
          simp only [List.length_cons, List.length_nil]
          omega
        walk_at "g"
        refine ⟨_, _, _, rfl, (c3.trans (c35.trans c6)).trans (Ch.wrL e6 (by simp)), ?_⟩
        rw [upd_same, take_snoc hf, xfs_app, xTs_b]
        simp [ww, xfs, xf, wE]
    · rintro σ H3 ⟨x2, x3, x4, rfl, c3, e3⟩
      rw [hl, List.take_length] at e3
      walk_at "g"
      have ok := okW_fs W
      have sm := sum_le8 (okW_len ok)
      rw [ww_len] at sm
      refine ⟨_, l, ww (xfs fs), rfl, rfl, .inl (SqL.of e3), ?_, ?_⟩
      · rw [ww_len, show (Str.ofString " " : Str).length = 1 from by decide +kernel]
        omega
      · exact q H3 (ch_own c12 c3 (by simpa using lN))
end
end K3
end

section
set_option maxRecDepth 100000
set_option maxHeartbeats 1000000
open Bq L2
/-- one step of a reading; what is left are side goals and places to think -/
local macro_rules | `(tactic| walk_at "g1") => `(tactic| first
  | with_reducible refine' g_seq ?_ | with_reducible refine' g_asg ?_ | with_reducible refine' g_drop ?_ | with_reducible refine' g_ret ?_ | with_reducible refine' g_ifS ?_ | with_reducible refine' g_asgG ?_
  | ((with_reducible refine' g_var ?hv ?_); (case hv => rfl))
  | with_reducible refine' g_c ?_ | with_reducible refine' g_op ?_ | with_reducible refine' g_un ?_ | with_reducible refine' g_I0 ?_ | with_reducible refine' g_U ?_
  | with_reducible refine' g_test ?_ | with_reducible refine' g_tB ?_ | with_reducible refine Exists.intro _ (And.intro rfl ?_) 
  | ((with_reducible refine' g_andP ?ha ?hb ?_); (case ha => intro R q; walk_at "g"; exact q); (case hb => intro R q; walk_at "g"; exact q))
  | ((with_reducible refine' g_orP ?ha ?hb ?_); (case ha => intro R q; walk_at "g"; exact q); (case hb => intro R q; walk_at "g"; exact q))
  | with_reducible refine' g_and ?_ | with_reducible refine' g_or ?_ | with_reducible refine' g_not ?_
  | with_reducible refine' g_andV ?_ | with_reducible refine' g_orV ?_ | with_reducible refine' g_notV ?_ | with_reducible refine' g_if ?_ | with_reducible refine' g_nil ?_ | with_reducible refine' g_cons ?_
  | with_reducible refine' g_tup ?_ | with_reducible refine' g_lst ?_ | with_reducible refine' g_CB ?_ | with_reducible refine' g_Fn ?_ | with_reducible refine' g_next ?_ | with_reducible refine' g_retN ?_
  | with_reducible refine' g_name ?_ | with_reducible refine' g_sub ?_
  | ((with_reducible refine' g_ixL ?hs ?he ?_); (case hs => walk_at "lk"); (case he => walk_at "at"))
  | ((with_reducible refine' g_ixT ?hs ?he ?_); (case hs => walk_at "lk"); (case he => walk_at "at"))
  | ((with_reducible refine' g_setL ?hs ?he ?_); (case hs => walk_at "hp"); (case he => rfl))
  | ((with_reducible refine' g_app ?hs ?hz ?_); (case hs => walk_at "hp"); (case hz => walk_at "sz"))
  | ((with_reducible refine' ⟨_, _, rfl, Or.inl ?hs, ?_⟩); (case hs => walk_at "lk"))
  | ((with_reducible refine' ⟨_, _, rfl, Or.inr ?hs, ?_⟩); (case hs => walk_at "lk"))
  | with_reducible refine' g_BM ?_ | with_reducible refine' g_BM0 ?_ | ((with_reducible refine' g_tyL ?hs ?_); (case hs => walk_at "lk"))
  | with_reducible refine' g_sl ?_ | with_reducible refine' g_noPart ?_ | with_reducible refine' g_part ?_
  | ((with_reducible refine' g_inT ?hs ?fx ?fs ?_); (case hs => walk_at "lk"); (case fx => rfl); (case fs => rfl))
  | with_reducible refine' g_pair ?_ | with_reducible refine' g_pair0 ?_ | with_reducible refine' g_disp ?_
  | with_reducible refine' g_for ?_ | with_reducible refine' g_tupC ?_ | with_reducible refine' g_lstC ?_ | ((with_reducible refine' g_lens ?_)) | with_reducible refine' g_dg ?_ | with_reducible refine' g_lc ?_ | with_reducible refine' g_rng1 ?_ | with_reducible refine' g_ilist ?_ | with_reducible refine' g_itup ?_
  | ((with_reducible refine' ⟨_, _, rfl, ?hd, ?_⟩); (case hd => walk_at "dg"))
  | ((with_reducible refine' g_eqNil ?hs ?hz ?_); (case hs => walk_at "lk"); (case hz => walk_at "lk"))
  | ((with_reducible refine' g_neNil ?hs ?hz ?_); (case hs => walk_at "lk"); (case hz => walk_at "lk"))
  | with_reducible refine Or.inl ⟨_, rfl, ?_⟩
  | with_reducible refine Or.inr ⟨_, rfl, ?_⟩
  | ((with_reducible refine' g_eq ?hs ?_); (case hs => rfl))
  | ((with_reducible refine' g_ne ?hs ?_); (case hs => rfl))
  | ((with_reducible refine' g_I ?hc ?_); (case hc => walk_at "ar")))
/-- arithmetic's side conditions -/
local macro_rules | `(tactic| walk_at "ar") => `(tactic| (first
  | (show (0 : Int) < _; first | omega | decide) | (show (0 : Int) < _ ∧ _; constructor <;> omega) | (show ¬ (_ : Int) = _; omega) | (show (_ : Int) ≠ _ ∧ _; constructor <;> omega)
  | (show (-(2 ^ 64) < _ ∧ _) ∨ _; (first | (left; constructor <;> omega) | (right; constructor <;> omega))) | (show (0 : Int) ≤ _ ∧ _ ∧ _; refine ⟨by omega, by omega, by decide⟩)))
/-- what stands at an index -/
local macro_rules | `(tactic| walk_at "at") => `(tactic| first | rfl | assumption)
/-- what stands at an address -/
local macro_rules | `(tactic| walk_at "hp") => `(tactic| first | assumption | exact upd_same | ((refine' Eq.trans (upd_ne ?hn) ?hm); (case hm => walk_at "hp"); (case hn => walk_at "ne")))
/-- two places are two -/
local macro_rules | `(tactic| walk_at "ne") => `(tactic| first
  | assumption | exact Ne.symm (by assumption)
  | ((refine' ne_of_none ?ha ?hb); (case hb => assumption); (case ha => walk_at "hp")) | ((refine' Ne.symm (ne_of_none ?ha ?hb)); (case hb => assumption); (case ha => walk_at "hp")))
/-- what a dict tells -/
local macro_rules | `(tactic| walk_at "dg") => `(tactic| first | assumption)
/-- a length -/
local macro_rules | `(tactic| walk_at "sz") => `(tactic| first | (show _ ≤ sizeLine; decide) | (show _ < sizeLine; decide) | assumption | exact szlt (by simp) | exact szle (by simp))
/-- a list or tuple that stands -/
local macro_rules | `(tactic| walk_at "lk") => `(tactic| first | assumption | exact SqL.of (by assumption) | exact SqT.of (by assumption) | exact SqL.of upd_same | exact SqT.of upd_same | (refine' FzL.sq ?hm; (case hm => walk_at "fz")))
/-- a list that nobody writes -/
local macro_rules | `(tactic| walk_at "fz") => `(tactic| first | assumption | ((refine' FzL.uw ?hm ?hx); (case hx => walk_at "hp"); (case hm => walk_at "fz")) | ((refine' FzL.nw ?hm ?hx); (case hx => assumption); (case hm => walk_at "fz")))
/-- as far as it goes by itself -/
local macro_rules | `(tactic| walk_at "g") => `(tactic| repeat walk_at "g1")
/-- the body's reading, its places in short -/
local macro_rules | `(tactic| walk_at "go") => `(tactic| ((try dsimp only [cxOf, Cx.nox, Cx.wish]); walk_at "g"))
namespace K3
open PySem PySem.Spec PyProof.Rows L2 Bq
section
variable {P : Program} {w : World} {K : PySem.W.Frag} {mg : Str → Option Value} {base : Heap}
/-- further steps: dicts written, tuples taken apart -/
local macro_rules | `(tactic| walk_at "g1") => `(tactic| first
  | with_reducible refine' g_sdput ?_
  | ((with_reducible refine' g_gtup ?hs ?hl ?_); (case hs => walk_at "lk"); (case hl => rfl))
  | with_reducible refine' g_gcons ?_
  | with_reducible refine' g_gnil ?_
  | with_reducible refine' And.intro (Eq.refl V.non) ?_
  | with_reducible refine' g_isN ?_
  | ((with_reducible refine' g_chainR ?ha ?hb ?hc ?_); (case ha => intro R q; walk_at "g"; exact q); (case hb => intro R q; walk_at "g"; exact q); (case hc => intro R q; walk_at "g"; exact q))
  | with_reducible refine' g_notN ?_)
/-- what the law's dict tells -/
local macro_rules | `(tactic| walk_at "dg") => `(tactic| first
  | assumption
  | exact LH.gfuns (by assumption)
  | exact LH.gsaid (by assumption)
  | exact LH.gcells (by assumption)
  | exact LH.gfuel (by assumption)
  | exact LH.gend (by assumption)
  | exact LH.gcalls (by assumption)
  | exact LH.gnames (by assumption)
  | exact LH.gwaits (by assumption)
  | exact LH.gworth (by assumption)
  | exact LH.glook (by assumption))
/-- a test that fails, that holds, by itself -/
local macro_rules | `(tactic| walk_at "no") => `(tactic| ((refine tkF rfl ?_); walk_at "g"))
local macro_rules | `(tactic| walk_at "yes") => `(tactic| ((refine tkT rfl ?_); walk_at "g"))
local macro_rules | `(tactic| walk_at "g1") => `(tactic| first
  | with_reducible refine' g_catS ?_
  | with_reducible refine' g_mulS ?_
  | with_reducible refine' g_rev ?_)
/-- texts: methods, signs, slices -/
local macro_rules | `(tactic| walk_at "g1") => `(tactic| first
  | with_reducible refine' g_tm0 ?_
  | with_reducible refine' g_tm1 ?_
  | with_reducible refine' g_isdig ?_
  | with_reducible refine' g_isasc ?_
  | with_reducible refine' g_starts ?_
  | with_reducible refine' g_str0 ?_
  | with_reducible refine' g_revL ?_
  | with_reducible refine' g_nilTrue ?_
  | with_reducible refine' g_chainT ?_)
theorem tl_spc : TL.tl (" " : Str) = [32] := by decide +kernel
theorem split_jn {x : List WT} (h : okW x) (hne : x ≠ []) : Txt.split (jn (ww x)) " " = ww x := by
  have e := TL.split_join (y := " ") (s := 32) (S := []) tl_spc (by decide +kernel) (parts := ww x) (ww_ne hne) (fun p hp => by
    obtain ⟨q, hq, rfl⟩ := List.mem_map.mp hp
    exact (h q hq).2)
  exact e
theorem xfs_ne {fs : List Fu} (W : WfPr fs) : xfs fs ≠ [] := by
  have := W.n1
  cases fs with
  | nil => simp at this
  | cons f r => simp [xfs, xf]
theorem jn_pos {fs : List Fu} (W : WfPr fs) : 0 < (jn (ww (xfs fs))).length := by
  have := W.n1
  cases fs with
  | nil => simp at this
  | cons f r =>
    have e : ww (xfs (f :: r)) = ("fun" : Str) :: wn f.ps :: ww ((wn f.nm, T.int f.nm) :: (xb f.body ++ [wE]) ++ xfs r) := by simp [xfs, xf, ww]
    rw [e, jn_cons, S_len, show ("fun" : Str).length = 3 from by decide +kernel]
    omega
def spRead (K : PySem.W.Frag) : Sp := fun vs H Q _ => ∃ fs, vs = [.str (jn (ww (xfs fs)))] ∧ WfPr fs ∧ ∀ H' v, Ch K [] H H' → Rep K H' v (.tup (fs.map encF)) → Q v H'
theorem fn_read (C : Cn w K mg base) : Fn P w K mg base CX0 7 "read" ["text"] (spRead K) := C.f_read fun fd F => by
  have F_check_program : Fn P w K mg base CX0 6 "check_program" ["program"] (spCheck K) := fn_check C
  have F_items_of : Fn P w K mg base CX0 6 "items_of" ["words"] (spItems K) := fn_items_of C
  have F_built : Fn P w K mg base CX0 4 "built" ["items"] (spBuilt K) := fn_built C
  refine F.ok (CX := CX0) sc_read (fun vs H Q E h => ?_) (fun cdv A outer s H vs Q E hr h => ?_)
  · obtain ⟨fs, rfl, _⟩ := h
    rfl
  · obtain ⟨fs, rfl, W, q⟩ := h
    refine ⟨_, PSs.nox (pss_cons (ps_set (i := 1) sc_read.nd rfl (Or.inl rfl) (pe_mid (pe_ifExp (pt_truth (pv 0) (by intro _; rfl)) (pe_split (pv 0) pe_str) (pe_lstC pa_nil))))
      (pss_cons (ps_set (i := 2) sc_read.nd rfl (Or.inl rfl) (pe_fn F_built (rmm hr) (by rfl) pass0 (pa_cons (pe_fn F_items_of (rmm hr) (by rfl) pass0 (pa_cons (pv 1) pa_nil)) pa_nil)))
      (pss_cons (ps_expr (pe_fn F_check_program (rmm hr) (by rfl) pass0 (pa_cons (pv 2) pa_nil)))
      (pss_one (ps_ret (pv 2)))))), ?_⟩
    have xl := wfpr_len W
    have jl := jn_len (okW_fs W)
    walk_at "go"
    refine g_midE (fun v H' => ∃ l, v = .ref l ∧ Ch K [] H H' ∧ H' l = some (.lst ((ww (xfs fs)).map V.str))) ?_ ?_
    · walk_at "g"
      have jp := jn_pos W
      refine ⟨true, ?_, ?_⟩
      · refine ⟨by rw [sizeLine_eq]; omega, ?_⟩
        symm
        simp
        omega
      · walk_at "yes"
        refine ⟨_, _, rfl, rfl, by decide +kernel, by rw [sizeLine_eq]; omega, fun p np => ?_⟩
        refine ⟨p, rfl, Ch.new np, ?_⟩
        rw [upd_same, split_jn (okW_fs W) (xfs_ne W)]
    · rintro _ H1 ⟨l, rfl, c1, e1⟩
      walk_at "g"
      refine ⟨l, xfs fs, rfl, SqL.of e1, rn_fs fun f hf => ⟨by have := (W.all f hf).p4; omega, by have := (W.all f hf).n8; omega, wfpr_tx W hf⟩, by omega, fun H2 l2 us c2 n2 e2 r2 => ?_⟩
      walk_at "g"
      have bd := bd_fs fs [] []
      rw [List.nil_append] at bd
      refine ⟨l2, us, _, _, rfl, SqL.of e2, r2, by rw [wt, List.length_map]; omega, bd, fun H3 v c3 r3 => ?_⟩
      rw [List.reverse_reverse] at r3
      walk_at "g"
      refine ⟨v, fs, rfl, r3, W, fun H4 c4 => ?_⟩
      walk_at "g"
      exact q H4 v (((c1.trans c2).trans c3).trans c4) (r3.kt c4.kt)
end
end K3
end

section
set_option maxRecDepth 100000
set_option maxHeartbeats 1000000
open Bq L2
/-- one step of a reading; what is left are side goals and places to think -/
local macro_rules | `(tactic| walk_at "g1") => `(tactic| first
  | with_reducible refine' g_seq ?_ | with_reducible refine' g_asg ?_ | with_reducible refine' g_drop ?_ | with_reducible refine' g_ret ?_ | with_reducible refine' g_ifS ?_ | with_reducible refine' g_asgG ?_
  | ((with_reducible refine' g_var ?hv ?_); (case hv => rfl))
  | with_reducible refine' g_c ?_ | with_reducible refine' g_op ?_ | with_reducible refine' g_un ?_ | with_reducible refine' g_I0 ?_ | with_reducible refine' g_U ?_
  | with_reducible refine' g_test ?_ | with_reducible refine' g_tB ?_ | with_reducible refine Exists.intro _ (And.intro rfl ?_) 
  | ((with_reducible refine' g_andP ?ha ?hb ?_); (case ha => intro R q; walk_at "g"; exact q); (case hb => intro R q; walk_at "g"; exact q))
  | ((with_reducible refine' g_orP ?ha ?hb ?_); (case ha => intro R q; walk_at "g"; exact q); (case hb => intro R q; walk_at "g"; exact q))
  | with_reducible refine' g_and ?_ | with_reducible refine' g_or ?_ | with_reducible refine' g_not ?_
  | with_reducible refine' g_andV ?_ | with_reducible refine' g_orV ?_ | with_reducible refine' g_notV ?_ | with_reducible refine' g_if ?_ | with_reducible refine' g_nil ?_ | with_reducible refine' g_cons ?_
  | with_reducible refine' g_tup ?_ | with_reducible refine' g_lst ?_ | with_reducible refine' g_CB ?_ | with_reducible refine' g_Fn ?_ | with_reducible refine' g_next ?_ | with_reducible refine' g_retN ?_
  | with_reducible refine' g_name ?_ | with_reducible refine' g_sub ?_
  | ((with_reducible refine' g_ixL ?hs ?he ?_); (case hs => walk_at "lk"); (case he => walk_at "at"))
  | ((with_reducible refine' g_ixT ?hs ?he ?_); (case hs => walk_at "lk"); (case he => walk_at "at"))
  | ((with_reducible refine' g_setL ?hs ?he ?_); (case hs => walk_at "hp"); (case he => rfl))
  | ((with_reducible refine' g_app ?hs ?hz ?_); (case hs => walk_at "hp"); (case hz => walk_at "sz"))
  | ((with_reducible refine' ⟨_, _, rfl, Or.inl ?hs, ?_⟩); (case hs => walk_at "lk"))
  | ((with_reducible refine' ⟨_, _, rfl, Or.inr ?hs, ?_⟩); (case hs => walk_at "lk"))
  | with_reducible refine' g_BM ?_ | with_reducible refine' g_BM0 ?_ | ((with_reducible refine' g_tyL ?hs ?_); (case hs => walk_at "lk"))
  | with_reducible refine' g_sl ?_ | with_reducible refine' g_noPart ?_ | with_reducible refine' g_part ?_
  | ((with_reducible refine' g_inT ?hs ?fx ?fs ?_); (case hs => walk_at "lk"); (case fx => rfl); (case fs => rfl))
  | with_reducible refine' g_pair ?_ | with_reducible refine' g_pair0 ?_ | with_reducible refine' g_disp ?_
  | with_reducible refine' g_for ?_ | with_reducible refine' g_tupC ?_ | with_reducible refine' g_lstC ?_ | ((with_reducible refine' g_lens ?_)) | with_reducible refine' g_dg ?_ | with_reducible refine' g_lc ?_ | with_reducible refine' g_rng1 ?_ | with_reducible refine' g_ilist ?_ | with_reducible refine' g_itup ?_
  | ((with_reducible refine' ⟨_, _, rfl, ?hd, ?_⟩); (case hd => walk_at "dg"))
  | ((with_reducible refine' g_eqNil ?hs ?hz ?_); (case hs => walk_at "lk"); (case hz => walk_at "lk"))
  | ((with_reducible refine' g_neNil ?hs ?hz ?_); (case hs => walk_at "lk"); (case hz => walk_at "lk"))
  | with_reducible refine Or.inl ⟨_, rfl, ?_⟩
  | with_reducible refine Or.inr ⟨_, rfl, ?_⟩
  | ((with_reducible refine' g_eq ?hs ?_); (case hs => rfl))
  | ((with_reducible refine' g_ne ?hs ?_); (case hs => rfl))
  | ((with_reducible refine' g_I ?hc ?_); (case hc => walk_at "ar")))
/-- arithmetic's side conditions -/
local macro_rules | `(tactic| walk_at "ar") => `(tactic| (first
  | (show (0 : Int) < _; first | omega | decide) | (show (0 : Int) < _ ∧ _; constructor <;> omega) | (show ¬ (_ : Int) = _; omega) | (show (_ : Int) ≠ _ ∧ _; constructor <;> omega)
  | (show (-(2 ^ 64) < _ ∧ _) ∨ _; (first | (left; constructor <;> omega) | (right; constructor <;> omega))) | (show (0 : Int) ≤ _ ∧ _ ∧ _; refine ⟨by omega, by omega, by decide⟩)))
/-- what stands at an index -/
local macro_rules | `(tactic| walk_at "at") => `(tactic| first | rfl | assumption)
/-- what stands at an address -/
local macro_rules | `(tactic| walk_at "hp") => `(tactic| first | assumption | exact upd_same | ((refine' Eq.trans (upd_ne ?hn) ?hm); (case hm => walk_at "hp"); (case hn => walk_at "ne")))
/-- two places are two -/
local macro_rules | `(tactic| walk_at "ne") => `(tactic| first
  | assumption | exact Ne.symm (by assumption)
  | ((refine' ne_of_none ?ha ?hb); (case hb => assumption); (case ha => walk_at "hp")) | ((refine' Ne.symm (ne_of_none ?ha ?hb)); (case hb => assumption); (case ha => walk_at "hp")))
/-- what a dict tells -/
local macro_rules | `(tactic| walk_at "dg") => `(tactic| first | assumption)
/-- a length -/
local macro_rules | `(tactic| walk_at "sz") => `(tactic| first | (show _ ≤ sizeLine; decide) | (show _ < sizeLine; decide) | assumption | exact szlt (by simp) | exact szle (by simp))
/-- a list or tuple that stands -/
local macro_rules | `(tactic| walk_at "lk") => `(tactic| first | assumption | exact SqL.of (by assumption) | exact SqT.of (by assumption) | exact SqL.of upd_same | exact SqT.of upd_same | (refine' FzL.sq ?hm; (case hm => walk_at "fz")))
/-- a list that nobody writes -/
local macro_rules | `(tactic| walk_at "fz") => `(tactic| first | assumption | ((refine' FzL.uw ?hm ?hx); (case hx => walk_at "hp"); (case hm => walk_at "fz")) | ((refine' FzL.nw ?hm ?hx); (case hx => assumption); (case hm => walk_at "fz")))
/-- as far as it goes by itself -/
local macro_rules | `(tactic| walk_at "g") => `(tactic| repeat walk_at "g1")
/-- the body's reading, its places in short -/
local macro_rules | `(tactic| walk_at "go") => `(tactic| ((try dsimp only [cxOf, Cx.nox, Cx.wish]); walk_at "g"))
namespace K3
open PySem PySem.Spec PyProof.Rows L2 Bq
section
variable {P : Program} {w : World} {K : PySem.W.Frag} {mg : Str → Option Value} {base : Heap}
/-- further steps: dicts written, tuples taken apart -/
local macro_rules | `(tactic| walk_at "g1") => `(tactic| first
  | with_reducible refine' g_sdput ?_
  | ((with_reducible refine' g_gtup ?hs ?hl ?_); (case hs => walk_at "lk"); (case hl => rfl))
  | with_reducible refine' g_gcons ?_
  | with_reducible refine' g_gnil ?_
  | with_reducible refine' And.intro (Eq.refl V.non) ?_
  | with_reducible refine' g_isN ?_
  | ((with_reducible refine' g_chainR ?ha ?hb ?hc ?_); (case ha => intro R q; walk_at "g"; exact q); (case hb => intro R q; walk_at "g"; exact q); (case hc => intro R q; walk_at "g"; exact q))
  | with_reducible refine' g_notN ?_)
/-- what the law's dict tells -/
local macro_rules | `(tactic| walk_at "dg") => `(tactic| first
  | assumption
  | exact LH.gfuns (by assumption)
  | exact LH.gsaid (by assumption)
  | exact LH.gcells (by assumption)
  | exact LH.gfuel (by assumption)
  | exact LH.gend (by assumption)
  | exact LH.gcalls (by assumption)
  | exact LH.gnames (by assumption)
  | exact LH.gwaits (by assumption)
  | exact LH.gworth (by assumption)
  | exact LH.glook (by assumption))
/-- a test that fails, that holds, by itself -/
local macro_rules | `(tactic| walk_at "no") => `(tactic| ((refine tkF rfl ?_); walk_at "g"))
local macro_rules | `(tactic| walk_at "yes") => `(tactic| ((refine tkT rfl ?_); walk_at "g"))
local macro_rules | `(tactic| walk_at "g1") => `(tactic| first
  | with_reducible refine' g_catS ?_
  | with_reducible refine' g_mulS ?_
  | with_reducible refine' g_rev ?_)
/-- texts: methods, signs, slices -/
local macro_rules | `(tactic| walk_at "g1") => `(tactic| first
  | with_reducible refine' g_tm0 ?_
  | with_reducible refine' g_tm1 ?_
  | with_reducible refine' g_isdig ?_
  | with_reducible refine' g_isasc ?_
  | with_reducible refine' g_starts ?_
  | with_reducible refine' g_str0 ?_
  | with_reducible refine' g_revL ?_
  | with_reducible refine' g_nilTrue ?_
  | with_reducible refine' g_chainT ?_)
/-! ### data of the same kind are alike -/
mutual
def wiT : T → Nat
  | .int _ => 0
  | .str _ => 0
  | .tup ts => max ts.length (wiTs ts)
def wiTs : List T → Nat
  | [] => 0
  | t :: r => max (wiT t) (wiTs r)
end
theorem wiTs_get : ∀ {ts : List T} {i : Nat} {t : T}, ts[i]? = some t → wiT t ≤ wiTs ts
  | a :: r, 0, t, h => by
    simp at h
    subst h
    exact Nat.le_max_left ..
  | a :: r, i + 1, t, h => by
    have := wiTs_get (ts := r) (i := i) (t := t) (by simpa using h)
    exact Nat.le_trans this (Nat.le_max_right ..)
theorem dpTs_at : ∀ {ts : List T} {i : Nat} {t : T}, ts[i]? = some t → dpT t ≤ dpTs ts
  | a :: r, 0, t, h => by
    simp at h
    subst h
    exact Nat.le_max_left ..
  | a :: r, i + 1, t, h => by
    have := dpTs_at (ts := r) (i := i) (t := t) (by simpa using h)
    exact Nat.le_trans this (Nat.le_max_right ..)
theorem lk_rep {H : Hp} : ∀ (n : Nat) {t : T} {v u : V}, dpT t ≤ n → wiT t ≤ 4100000 → Rep K H v t → Rep K H u t → Lk K H n v u
  | n, .int i, v, u, _, _, r, q => by
    obtain rfl := r.intI
    obtain rfl := q.intI
    exact .int i
  | n, .str i, v, u, _, _, r, q => by
    obtain rfl := r.strI
    obtain rfl := q.strI
    exact .str i
  | 0, .tup ts, v, u, h, _, r, q => by simp only [dpT] at h; omega
  | n + 1, .tup ts, v, u, h, hw, r, q => by
    obtain ⟨a, vs, rfl, hS, rs⟩ := r.tupI
    obtain ⟨b, us, rfl, hT, qs⟩ := q.tupI
    simp only [dpT, wiT] at h hw
    have l1 := rs.len
    have l2 := qs.len
    refine .tup hS hT (by omega) (by omega) fun i x y hx hy => ?_
    obtain ⟨t, ht, r1⟩ := rs.get hx
    obtain ⟨t', ht', q1⟩ := qs.get hy
    rw [ht] at ht'
    cases ht'
    have d1 := dpTs_at ht
    have w1 := wiTs_get ht
    exact lk_rep n (by omega) (by omega) r1 q1
mutual
theorem wi_P : ∀ p : Pt, wiT (encP p) ≤ 3 + szP p
  | .num _ => by simp [encP, wiT, wiTs, szP]
  | .name _ => by simp [encP, wiT, wiTs, szP]
  | .bin _ a b => by have := wi_P a; have := wi_P b; simp only [encP, wiT, wiTs, szP, List.length_cons, List.length_nil]; omega
  | .nt a => by have := wi_P a; simp only [encP, wiT, wiTs, szP, List.length_cons, List.length_nil]; omega
  | .get a => by have := wi_P a; simp only [encP, wiT, wiTs, szP, List.length_cons, List.length_nil]; omega
  | .call _ ps => by have := wi_Ps ps; simp only [encP, wiT, wiTs, szP, List.length_cons, List.length_nil]; omega
theorem wi_Ps : ∀ ps : List Pt, max (encPs ps).length (wiTs (encPs ps)) ≤ 3 + szPs ps
  | [] => by simp [encPs, wiTs, szPs]
  | p :: r => by
    have := wi_P p
    have := wi_Ps r
    have h : 1 ≤ szP p := by cases p <;> simp only [szP] <;> omega
    simp only [encPs, wiTs, szPs, List.length_cons]
    omega
end
mutual
theorem wi_D : ∀ d : Dd, wiT (encDd d) ≤ 4 + szD d
  | .set _ p => by have := wi_P p; simp only [encDd, wiT, wiTs, szD, List.length_cons, List.length_nil]; omega
  | .put c p => by have := wi_P c; have := wi_P p; simp only [encDd, wiT, wiTs, szD, List.length_cons, List.length_nil]; omega
  | .say p => by have := wi_P p; simp only [encDd, wiT, wiTs, szD, List.length_cons, List.length_nil]; omega
  | .ite p a b => by have := wi_P p; have := wi_B a; have := wi_B b; simp only [encDd, wiT, wiTs, szD, List.length_cons, List.length_nil]; omega
  | .whl p b => by have := wi_P p; have := wi_B b; simp only [encDd, wiT, wiTs, szD, List.length_cons, List.length_nil]; omega
  | .ret p => by have := wi_P p; simp only [encDd, wiT, wiTs, szD, List.length_cons, List.length_nil]; omega
  | .dop p => by have := wi_P p; simp only [encDd, wiT, wiTs, szD, List.length_cons, List.length_nil]; omega
theorem wi_B : ∀ b : List Dd, max (encB b).length (wiTs (encB b)) ≤ 4 + szB b
  | [] => by simp [encB, wiTs, szB]
  | d :: r => by
    have := wi_D d
    have := wi_B r
    have h : 1 ≤ szD d := by cases d <;> simp only [szD] <;> omega
    simp only [encB, wiTs, szB, List.length_cons]
    omega
end
theorem wi_fs {fs : List Fu} (W : WfPr fs) : wiT (.tup (fs.map encF)) ≤ 4100000 := by
  have : ∀ gs : List Fu, (∀ f ∈ gs, f ∈ fs) → wiTs (gs.map encF) ≤ 1000 := by
    intro gs
    induction gs with
    | nil => intro _; simp [wiTs]
    | cons f r ih =>
      intro h
      have h1 := ih fun g hg => h g (by simp [hg])
      have h2 := wi_B f.body
      have h3 := (W.all f (h f (by simp))).sz
      simp only [List.map_cons, wiTs, encF, wiT, List.length_cons, List.length_nil]
      omega
  have h1 := this fs fun f h => h
  have h2 := W.n8
  simp only [wiT, List.length_map]
  omega
theorem dp_fs {fs : List Fu} (W : WfPr fs) : dpT (.tup (fs.map encF)) ≤ 98 := by
  have : ∀ gs : List Fu, (∀ f ∈ gs, f ∈ fs) → dpTs (gs.map encF) ≤ 97 := by
    intro gs
    induction gs with
    | nil => intro _; simp [dpTs]
    | cons f r ih =>
      intro h
      have h1 := ih fun g hg => h g (by simp [hg])
      have h2 := dpT_B (W.all f (h f (by simp))).wb
      simp only [List.map_cons, dpTs, encF, dpT]
      omega
  have h1 := this fs fun f h => h
  simp only [dpT]
  omega
/-! ### a first fun of far numbers -/
def farF (a b : Int) : Fu := ⟨0, 1, [.say (.bin .add (.num a) (.num b)), .set 0 (.name 0)]⟩
theorem far_wf {fs : List Fu} (W : WfPr fs) {a b : Int} (h1 : -1000000 ≤ a) (h2 : a ≤ 1000000) (h3 : -1000000 ≤ b) (h4 : b ≤ 1000000) : WfPr (farF a b :: fs.drop 1) := by
  have e : (farF a b :: fs.drop 1).map Fu.ps = fs.map Fu.ps := by
    have := W.n1
    cases fs with
    | nil => simp at this
    | cons f r =>
      have := W.f0 f rfl
      simp [farF, this]
  have := W.n1
  have := W.n8
  refine ⟨by simp, by simp; omega, fun f hf => by cases hf; rfl, fun f hf => ?_⟩
  rw [e]
  rcases List.mem_cons.mp hf with rfl | hf
  · refine ⟨by simp [farF], by simp [farF], by simp [farF], ?_, by simp [farF, szB, szD, szP]⟩
    simp only [farF, wfBs, wfD, wfP, szP]
    refine ⟨⟨⟨⟨h1, h2⟩, h3, h4⟩, by decide⟩, ⟨by decide, by decide, by decide⟩, trivial⟩
  · exact W.all f (List.mem_of_mem_drop hf)
theorem bl_xf (f : Fu) : bl (ww (xf f)) = (("fun " : Str) ++ wn f.ps ++ " " ++ wn f.nm ++ " ") ++ (bl (ww (xb f.body)) ++ "end ") := by
  have e : ww (xf f) = [("fun" : Str)] ++ ([wn f.ps] ++ ([wn f.nm] ++ (ww (xb f.body) ++ [("end" : Str)]))) := by simp [ww, xf, wE]
  have b1 : ∀ a : Str, bl [a] = a ++ sp := fun a => by
    show a ++ (sp ++ "") = _
    rw [S_nilR]
  rw [e, bl_app, bl_app, bl_app, bl_app, b1, b1, b1, show bl [("end" : Str)] = ("end " : Str) from by decide +kernel, show ("fun" : Str) ++ sp = ("fun " : Str) from by decide +kernel]
  simp only [S_assoc]
  rfl
def spLaw (K : PySem.W.Frag) : Sp := fun vs H Q _ => ∃ (sc : Addr) (ns : List Int), vs = [.ref sc] ∧ FzL K H sc (ns.map V.int) ∧ ns.length ≤ 63 ∧ ∀ H', Q (.bl true) H'
theorem ok_law (C : Cn w K mg base) {fl : Addr} {fd : FuncData} (F : FnP K "law" "law" s_law fl fd) : FnOk P w K mg base CX0 113 fl fd ["_law_script"] (spLaw K) := by
  have F_law_dice : Fn P w K mg base CX0 1 "_law_dice" ["_law_script"] (spDice K) := fn_dice C
  have F_law_next : Fn P w K mg base CX0 1 "_law_next" ["_law_dice_here", "_law_many"] (spNext K) := fn_next C
  have F_law_program : Fn P w K mg base CX0 98 "_law_program" ["_law_d"] (spProgram K) := fn_program C
  have F_law_body_text : Fn P w K mg base CX0 53 "_law_body_text" ["_law_deeds"] (spBodyText K 8) := fn_body_text C 8
  have F_written : Fn P w K mg base CX0 112 "written" ["program"] (spWritten K) := fn_written C
  have F_read : Fn P w K mg base CX0 7 "read" ["text"] (spRead K) := fn_read C
  have F_law_like : Fn P w K mg base CX0 100 "_law_like" ["_law_found", "_law_due"] (spLike K 98) := fn_like C 98
  refine F.ok (CX := CX0) sc_law (fun vs H Q E h => ?_) (fun cdv A outer s H vs Q E hr h => ?_)
  · obtain ⟨sc, ns, rfl, _⟩ := h
    rfl
  · obtain ⟨sc, ns, rfl, hs, hl, q⟩ := h
    refine ⟨_, PSs.nox (pss_cons (ps_set (i := 1) sc_law.nd rfl (Or.inl rfl) (pe_fn F_law_dice (rmm hr) (by rfl) pass0 (pa_cons (pv 0) pa_nil)))
      (pss_cons (ps_for PassesOwn.never rfl (pi_range1 (by rfl) (C.m_range) (pa_cons pe_int pa_nil)) (pg_name (i := 2) sc_law.nd rfl (Or.inl rfl)) (pss_cons (ps_set (i := 3) sc_law.nd rfl (Or.inl rfl) (pe_fn F_law_program (rmm hr) (by rfl) pass0 (pa_cons (pv 1) pa_nil)))
      (Evl.pss_cut (ps_if (pt_cmpR op_eq (pv 2) pe_int (nomark _)) (pss_cons (ps_set (i := 4) sc_law.nd rfl (Or.inl rfl) (pe_tupC (pa_cons pe_str (pa_cons (pe_ix ix_list (pe_lstC (pa_cons (pe_un un_neg (pe_op op_pow pe_int pe_int)) (pa_cons (pe_op op_pow pe_int pe_int) (pa_cons pe_int pa_nil)))) (pe_fn F_law_next (rmm hr) (by rfl) pass0 (pa_cons (pv 1) (pa_cons pe_int pa_nil))) (fun _ _ => rfl)) pa_nil))))
      (pss_cons (ps_set (i := 5) sc_law.nd rfl (Or.inl rfl) (pe_tupC (pa_cons pe_str (pa_cons (pe_op op_sub (pe_fn F_law_next (rmm hr) (by rfl) pass0 (pa_cons (pv 1) (pa_cons pe_int pa_nil))) (pe_op op_pow pe_int pe_int)) pa_nil))))
      (pss_cons (ps_set (i := 6) sc_law.nd rfl (Or.inl rfl) (pe_tupC (pa_cons pe_str (pa_cons (pe_tupC (pa_cons pe_str (pa_cons (pv 4) (pa_cons (pv 5) pa_nil)))) pa_nil))))
      (pss_one (ps_set (i := 3) sc_law.nd rfl (Or.inl rfl) (pe_op op_catR (pe_tupC (pa_cons (pe_tupC (pa_cons pe_int (pa_cons pe_int (pa_cons (pe_tupC (pa_cons (pv 6) (pa_cons (pe_tupC (pa_cons pe_str (pa_cons pe_int (pa_cons (pe_tupC (pa_cons pe_str (pa_cons pe_int pa_nil))) pa_nil)))) pa_nil))) pa_nil)))) pa_nil)) (pe_slice sl_tupR (pv 3) (po_some pe_int) po_none))))))) pss_nil)
      (pss_cons (ps_set (i := 7) sc_law.nd rfl (Or.inl rfl) pe_str)
      (pss_cons (ps_for PassesOwn.never rfl (pi_tup (pv 3)) (pg_tup rfl (pgs_cons (pg_name (i := 8) sc_law.nd rfl (Or.inl rfl)) (pgs_cons (pg_name (i := 9) sc_law.nd rfl (Or.inl rfl)) (pgs_cons (pg_name (i := 10) sc_law.nd rfl (Or.inl rfl)) pgs_nil)))) (pss_cons (ps_set (i := 11) sc_law.nd rfl (Or.inl rfl) (pe_op op_catS (pe_op op_catS (pe_op op_catS (pe_op op_catS pe_str (pe_callTy call_str_int (by rfl) (C.m_str) (by decide +kernel) (pa_cons (pv 8) pa_nil))) pe_str) (pe_callTy call_str_int (by rfl) (C.m_str) (by decide +kernel) (pa_cons (pv 9) pa_nil))) pe_str))
      (pss_one (ps_set (i := 7) sc_law.nd rfl (Or.inl rfl) (pe_op op_catS (pe_op op_catS (pe_op op_catS (pv 7) (pv 11)) (pe_fn F_law_body_text (rmm hr) (by rfl) pass0 (pa_cons (pv 10) pa_nil))) pe_str)))))
      (pss_cons (ps_set (i := 7) sc_law.nd rfl (Or.inl rfl) (pe_slice sl_str (pv 7) po_none (po_some (pe_un un_neg pe_int))))
      (pss_one (ps_if (PW.pt (pw_or (pt_not (pt_val (pe_fn F_law_like (rmm hr) (by rfl) pass0 (pa_cons (pe_fn F_written (rmm hr) (by rfl) pass0 (pa_cons (pv 3) pa_nil)) (pa_cons (pv 7) pa_nil))))) (pw_or1 (pt_not (pt_val (pe_fn F_law_like (rmm hr) (by rfl) pass0 (pa_cons (pe_fn F_read (rmm hr) (by rfl) pass0 (pa_cons (pv 7) pa_nil)) (pa_cons (pv 3) pa_nil)))))))) (pss_one (ps_ret pe_bl)) pss_nil))))))))
      (pss_one (ps_ret pe_bl)))), ?_⟩
    walk_at "go"
    refine ⟨sc, ns, rfl, hs, hl, fun H1 d c1 nd D1 => ?_⟩
    walk_at "g"
    refine ⟨by decide, by decide, ?_⟩
    refine for_rng (n := 4) (fun i σ' H' => ∃ x2 x3 x4 x5 x6 x7 x8 x9 x10 x11, σ' = [some (.ref sc), some (.ref d), x2, x3, x4, x5, x6, x7, x8, x9, x10, x11] ∧ Dice K H' d) ⟨_, _, _, _, _, _, _, _, _, _, rfl, D1⟩ ?_ ?_
    · rintro i _ H2 hi ⟨x2, x3, x4, x5, x6, x7, x8, x9, x10, x11, rfl, D2⟩
      walk_at "g"
      refine ⟨d, rfl, D2, fun H3 pgv fs0 c3 D3 r3 W3 => ?_⟩
      walk_at "g"
      refine g_cut (Mid := fun σ' H' => ∃ x4 x5 x6 pv fs, σ' = [some (.ref sc), some (.ref d), some (.int (i : Nat)), some pv, x4, x5, x6, x7, x8, x9, x10, x11] ∧ Dice K H' d ∧ Rep K H' pv (.tup (fs.map encF)) ∧ WfPr fs) ?_ ?_
      · walk_at "g"
        refine iteB (fun h0 => ?_) (fun h0 => ?_)
        · walk_at "g"
          refine ⟨szle (by simp), fun p H4 n4 e4 c4 => ?_⟩
          have D4 := D3.ch c4 (by simp)
          walk_at "g"
          refine ⟨d, 3, rfl, D4, by decide, by decide, fun H5 m5 c5 D5 m0 m1 => ?_⟩
          have hdp : p ≠ d := D3.ne n4
          have hp5 : SqL K H5 p [V.int (-10 ^ Int.toNat 6), V.int (10 ^ Int.toNat 6), V.int 0] := SqL.of (c5.up _ _ e4 (by simpa using hdp))
          obtain ⟨x, hx, x1, x2'⟩ : ∃ x : Int, atI [V.int (-10 ^ Int.toNat 6), V.int (10 ^ Int.toNat 6), V.int 0] m5 = some (.int x) ∧ -1000000 ≤ x ∧ x ≤ 1000000 := by
            have : m5 = 0 ∨ m5 = 1 ∨ m5 = 2 := by omega
            rcases this with rfl | rfl | rfl
            · exact ⟨_, rfl, by decide, by decide⟩
            · exact ⟨_, rfl, by decide, by decide⟩
            · exact ⟨_, rfl, by decide, by decide⟩
          refine g_ixL hp5 hx ?_
          walk_at "g"
          refine ⟨szle (by simp), fun t1 H6 n6 e6 c6 => ?_⟩
          have D6 := D5.ch c6 (by simp)
          walk_at "g"
          refine ⟨d, 2000001, rfl, D6, by decide, by decide, fun H7 m7 c7 D7 m70 m71 => ?_⟩
          walk_at "g"
          refine ⟨szle (by simp), fun t2 H8 n8 e8 c8 => ?_⟩
          have D8 := D7.ch c8 (by simp)
          have y1 : -1000000 ≤ m7 - 10 ^ Int.toNat 6 := by
            have : (10 : Int) ^ Int.toNat 6 = 1000000 := by decide
            omega
          have y2 : m7 - 10 ^ Int.toNat 6 ≤ 1000000 := by
            have : (10 : Int) ^ Int.toNat 6 = 1000000 := by decide
            omega
          generalize m7 - 10 ^ Int.toNat 6 = y at e8 y1 y2
          have rt1 : Rep K H8 (.ref t1) (encP (.num x)) := .tup (((c7.kt.trans c8.kt).t _ _ (SqT.of e6))) (.cons (.str _) (.cons (.int _) .nil))
          have rt2 : Rep K H8 (.ref t2) (encP (.num y)) := .tup (SqT.of e8) (.cons (.str _) (.cons (.int _) .nil))
          have r8 : Rep K H8 pgv (.tup (fs0.map encF)) := r3.kt ((((c4.kt.trans c5.kt).trans c6.kt).trans c7.kt).trans c8.kt)
          clear r3
          walk_at "g"
          refine ⟨szle (by simp), fun t3 H9 n9 e9 c9 => ?_⟩
          have rt3 : Rep K H9 (.ref t3) (encP (.bin .add (.num x) (.num y))) := .tup (SqT.of e9) (.cons (.str _) (.cons (rt1.kt c9.kt) (.cons (rt2.kt c9.kt) .nil)))
          walk_at "g"
          refine ⟨szle (by simp), fun t4 H10 n10 e10 c10 => ?_⟩
          have rt4 : Rep K H10 (.ref t4) (encDd (.say (.bin .add (.num x) (.num y)))) := .tup (SqT.of e10) (.cons (.str _) (.cons (rt3.kt c10.kt) .nil))
          walk_at "g"
          refine ⟨szle (by simp), fun t5 H11 n11 e11 c11 => ?_⟩
          have rt5 : Rep K H11 (.ref t5) (encP (.name 0)) := .tup (SqT.of e11) (.cons (.str _) (.cons (.int 0) .nil))
          walk_at "g"
          refine ⟨szle (by simp), fun t6 H12 n12 e12 c12 => ?_⟩
          have rt6 : Rep K H12 (.ref t6) (encDd (.set 0 (.name 0))) := .tup (SqT.of e12) (.cons (.str _) (.cons (.int 0) (.cons (rt5.kt c12.kt) .nil)))
          have rt4' := rt4.kt (c11.trans c12).kt
          walk_at "g"
          refine ⟨szle (by simp), fun t7 H13 n13 e13 c13 => ?_⟩
          have rt7 : Rep K H13 (.ref t7) (.tup (encB (farF x y).body)) := .tup (SqT.of e13) (.cons (rt4'.kt c13.kt) (.cons (rt6.kt c13.kt) .nil))
          walk_at "g"
          refine ⟨szle (by simp), fun t8 H14 n14 e14 c14 => ?_⟩
          have rt8 : Rep K H14 (.ref t8) (encF (farF x y)) := .tup (SqT.of e14) (.cons (.int 0) (.cons (.int 1) (.cons (rt7.kt c14.kt) .nil)))
          walk_at "g"
          refine ⟨szle (by simp), fun t9 H15 n15 e15 c15 => ?_⟩
          have rt9 : Rep K H15 (.ref t9) (.tup [encF (farF x y)]) := .tup (SqT.of e15) (.cons (rt8.kt c15.kt) .nil)
          have c9_15 : Ch K [] H8 H15 := (((((c9.trans c10).trans c11).trans c12).trans c13).trans c14).trans c15
          have r15 := r8.kt c9_15.kt
          have D15 := D8.ch c9_15 (by simp)
          walk_at "g"
          refine ⟨_, r15, fun v16 H16 c16 r16 => ?_⟩
          rw [show ((1 : Int)) = ((1 : Nat) : Int) from rfl, cutT_from, ← List.map_drop] at r16
          refine ⟨_, _, rt9.kt c16.kt, r16, by have := W3.n8; simp; omega, fun v17 H17 c17 r17 => ?_⟩
          exact ⟨_, _, _, v17, farF x y :: fs0.drop 1, rfl, D15.ch (c16.trans c17) (by simp), r17, far_wf W3 x1 x2' y1 y2⟩
        · walk_at "g"
          exact ⟨_, _, _, pgv, fs0, rfl, D3, r3, W3⟩
      · rintro _ H4 ⟨x4, x5, x6, pv, fs, rfl, D4, r4, W4⟩
        obtain ⟨ga, gvs, rfl, hga, rgs⟩ := r4.tupI
        have hl : gvs.length = fs.length := by rw [rgs.len, List.length_map]
        have xl := wfpr_len W4
        have okA := okW_fs W4
        have lF : ("fun " : Str).length = 4 := by decide +kernel
        have lN : ("end " : Str).length = 4 := by decide +kernel
        have lS := len_sp
        walk_at "g"
        refine ⟨⟨_, hga⟩, for_it (walk_tup (xs := gvs)) (fun j σ H' => ∃ x8 x9 x10 x11, σ = [some (.ref sc), some (.ref d), some (.int (i : Nat)), some (.ref ga), x4, x5, x6, some (.str (bl (ww (xfs (fs.take j))))), x8, x9, x10, x11] ∧ Ch K [] H4 H') ⟨_, _, _, _, by rw [List.take_zero]; rfl, Ch.refl⟩ (fun j σ H' _ ⟨_, _, _, _, _, c⟩ => c.sqT hga) ?_ ?_⟩
        · rintro j y σ H5 _ hj ⟨x8, x9, x10, x11, rfl, c5⟩ ⟨rfl, hy⟩
          obtain ⟨t, ht, rt⟩ := rgs.get hy
          obtain ⟨f, hf, rfl⟩ := encF_at ht
          have fm := List.mem_of_getElem? hf
          obtain ⟨p4, pn, n8, wb, sz⟩ := W4.all f fm
          have ps8 := wfpr_ps W4
          have tf := wfpr_tx W4 fm
          obtain ⟨fa, fvs, rfl, hfa, rfv⟩ := (rt.kt c5.kt).tupI
          obtain ⟨v1, vs2, rfl, r1, rs2⟩ := rfv.consI
          obtain ⟨v2, vs3, rfl, r2, rs3⟩ := rs2.consI
          obtain ⟨v3, vs4, rfl, r3', rs4⟩ := rs3.consI
          obtain rfl := r1.intI
          obtain rfl := r2.intI
          obtain rfl := rs4.nilI
          have hsplit : xfs fs = xfs (fs.take j) ++ (xf f ++ xfs (fs.drop (j + 1))) := by
            have e0 : fs = fs.take j ++ f :: fs.drop (j + 1) := by
              obtain ⟨h1, h2⟩ := List.getElem?_eq_some_iff.mp hf
              rw [← h2, ← List.drop_eq_getElem_cons h1, List.take_append_drop]
            exact (congrArg xfs e0).trans (xfs_app _ _)
          have ok1 : okW (xfs (fs.take j)) := fun q hq => okA q (by rw [hsplit]; exact List.mem_append_left _ hq)
          have l1 := blw_len ok1
          have l2 := blw_len (okW_b tf)
          have l3 := xb_len f.body
          have l4 : (xfs (fs.take j)).length ≤ 5000 := by rw [hsplit, List.length_append] at xl; omega
          have w1 := wlen (okS_nat (n := f.ps) (by omega))
          have w2 := wlen (okS_nat (n := f.nm) (by omega))
          refine g_gtup hfa rfl ?_
          walk_at "g"
          refine ⟨log_ok (by omega) (by omega), ?_⟩
          walk_at "g"
          refine ⟨by omega, ?_⟩
          walk_at "g"
          refine ⟨by rw [S_len]; omega, ?_⟩
          walk_at "g"
          refine ⟨log_ok (by omega) (by omega), ?_⟩
          walk_at "g"
          refine ⟨by rw [S_len, S_len]; omega, ?_⟩
          walk_at "g"
          refine ⟨by rw [S_len, S_len, S_len]; omega, ?_⟩
          walk_at "g"
          refine ⟨by rw [S_len, S_len, S_len, S_len]; omega, ?_⟩
          walk_at "g"
          refine ⟨v3, f.body, f.nm, fs.map Fu.ps, rfl, r3', wb, n8, ps8.1, ps8.2, by omega, fun H6 c6 => ?_⟩
          walk_at "g"
          refine ⟨by rw [S_len, S_len, S_len, S_len, S_len]; omega, ?_⟩
          walk_at "g"
          refine ⟨by rw [S_len, S_len, S_len, S_len, S_len, S_len]; omega, ?_⟩
          walk_at "g"
          have e9 : bl (ww (xfs (fs.take (j + 1)))) = bl (ww (xfs (fs.take j))) ++ (("fun " : Str) ++ wn f.ps ++ " " ++ wn f.nm ++ " ") ++ bl (ww (xb f.body)) ++ "end " := by
            rw [take_snoc hf, xfs_app, ww_app, bl_app, show xfs [f] = xf f from by simp [xfs], bl_xf]
            simp only [S_assoc]
          rw [e9]
          exact ⟨_, _, _, _, rfl, c5.trans c6⟩
        · rintro σ H5 ⟨x8, x9, x10, x11, rfl, c5⟩
          rw [hl, List.take_length]
          have r5 : Rep K H5 (.ref ga) (.tup (fs.map encF)) := r4.kt c5.kt
          have lz := blw_len okA
          walk_at "g"
          refine ⟨_, rfl, szS (by omega), ?_⟩
          have ecut : cutS (bl (ww (xfs fs))) none (some (-1)) = jn (ww (xfs fs)) := by
            rw [bl_jn (ww_ne (xfs_ne W4))]
            exact cutS_last _ (by omega)
          rw [ecut]
          walk_at "g"
          refine ⟨.ref ga, fs, rfl, r5, W4, fun H6 c6 => ?_⟩
          walk_at "g"
          refine ⟨_, _, rfl, .str _, ?_⟩
          walk_at "g"
          walk_at "no"
          refine ⟨fs, rfl, W4, fun H7 v7 c7 r7 => ?_⟩
          walk_at "g"
          refine ⟨v7, .ref ga, rfl, lk_rep 98 (dp_fs W4) (wi_fs W4) r7 (r5.kt (c6.trans c7).kt), ?_⟩
          walk_at "g"
          walk_at "no"
          exact ⟨_, _, _, _, _, _, _, _, _, _, rfl, D4.ch ((c5.trans c6).trans c7) (by simp)⟩
    · rintro _ H2 ⟨x2, x3, x4, x5, x6, x7, x8, x9, x10, x11, rfl, D2⟩
      walk_at "g"
      exact q H2
end
end K3
end

section
set_option maxRecDepth 100000
set_option maxHeartbeats 1000000
open Bq L2
/-- one step of a reading; what is left are side goals and places to think -/
local macro_rules | `(tactic| walk_at "g1") => `(tactic| first
  | with_reducible refine' g_seq ?_ | with_reducible refine' g_asg ?_ | with_reducible refine' g_drop ?_ | with_reducible refine' g_ret ?_ | with_reducible refine' g_ifS ?_ | with_reducible refine' g_asgG ?_
  | ((with_reducible refine' g_var ?hv ?_); (case hv => rfl))
  | with_reducible refine' g_c ?_ | with_reducible refine' g_op ?_ | with_reducible refine' g_un ?_ | with_reducible refine' g_I0 ?_ | with_reducible refine' g_U ?_
  | with_reducible refine' g_test ?_ | with_reducible refine' g_tB ?_ | with_reducible refine Exists.intro _ (And.intro rfl ?_) 
  | ((with_reducible refine' g_andP ?ha ?hb ?_); (case ha => intro R q; walk_at "g"; exact q); (case hb => intro R q; walk_at "g"; exact q))
  | ((with_reducible refine' g_orP ?ha ?hb ?_); (case ha => intro R q; walk_at "g"; exact q); (case hb => intro R q; walk_at "g"; exact q))
  | with_reducible refine' g_and ?_ | with_reducible refine' g_or ?_ | with_reducible refine' g_not ?_
  | with_reducible refine' g_andV ?_ | with_reducible refine' g_orV ?_ | with_reducible refine' g_notV ?_ | with_reducible refine' g_if ?_ | with_reducible refine' g_nil ?_ | with_reducible refine' g_cons ?_
  | with_reducible refine' g_tup ?_ | with_reducible refine' g_lst ?_ | with_reducible refine' g_CB ?_ | with_reducible refine' g_Fn ?_ | with_reducible refine' g_next ?_ | with_reducible refine' g_retN ?_
  | with_reducible refine' g_name ?_ | with_reducible refine' g_sub ?_
  | ((with_reducible refine' g_ixL ?hs ?he ?_); (case hs => walk_at "lk"); (case he => walk_at "at"))
  | ((with_reducible refine' g_ixT ?hs ?he ?_); (case hs => walk_at "lk"); (case he => walk_at "at"))
  | ((with_reducible refine' g_setL ?hs ?he ?_); (case hs => walk_at "hp"); (case he => rfl))
  | ((with_reducible refine' g_app ?hs ?hz ?_); (case hs => walk_at "hp"); (case hz => walk_at "sz"))
  | ((with_reducible refine' ⟨_, _, rfl, Or.inl ?hs, ?_⟩); (case hs => walk_at "lk"))
  | ((with_reducible refine' ⟨_, _, rfl, Or.inr ?hs, ?_⟩); (case hs => walk_at "lk"))
  | with_reducible refine' g_BM ?_ | with_reducible refine' g_BM0 ?_ | ((with_reducible refine' g_tyL ?hs ?_); (case hs => walk_at "lk"))
  | with_reducible refine' g_sl ?_ | with_reducible refine' g_noPart ?_ | with_reducible refine' g_part ?_
  | ((with_reducible refine' g_inT ?hs ?fx ?fs ?_); (case hs => walk_at "lk"); (case fx => rfl); (case fs => rfl))
  | with_reducible refine' g_pair ?_ | with_reducible refine' g_pair0 ?_ | with_reducible refine' g_disp ?_
  | with_reducible refine' g_for ?_ | with_reducible refine' g_tupC ?_ | with_reducible refine' g_lstC ?_ | ((with_reducible refine' g_lens ?_)) | with_reducible refine' g_dg ?_ | with_reducible refine' g_lc ?_ | with_reducible refine' g_rng1 ?_ | with_reducible refine' g_ilist ?_ | with_reducible refine' g_itup ?_
  | ((with_reducible refine' ⟨_, _, rfl, ?hd, ?_⟩); (case hd => walk_at "dg"))
  | ((with_reducible refine' g_eqNil ?hs ?hz ?_); (case hs => walk_at "lk"); (case hz => walk_at "lk"))
  | ((with_reducible refine' g_neNil ?hs ?hz ?_); (case hs => walk_at "lk"); (case hz => walk_at "lk"))
  | with_reducible refine Or.inl ⟨_, rfl, ?_⟩
  | with_reducible refine Or.inr ⟨_, rfl, ?_⟩
  | ((with_reducible refine' g_eq ?hs ?_); (case hs => rfl))
  | ((with_reducible refine' g_ne ?hs ?_); (case hs => rfl))
  | ((with_reducible refine' g_I ?hc ?_); (case hc => walk_at "ar")))
/-- arithmetic's side conditions -/
local macro_rules | `(tactic| walk_at "ar") => `(tactic| (first
  | (show (0 : Int) < _; first | omega | decide) | (show (0 : Int) < _ ∧ _; constructor <;> omega) | (show ¬ (_ : Int) = _; omega) | (show (_ : Int) ≠ _ ∧ _; constructor <;> omega)
  | (show (-(2 ^ 64) < _ ∧ _) ∨ _; (first | (left; constructor <;> omega) | (right; constructor <;> omega))) | (show (0 : Int) ≤ _ ∧ _ ∧ _; refine ⟨by omega, by omega, by decide⟩)))
/-- what stands at an index -/
local macro_rules | `(tactic| walk_at "at") => `(tactic| first | rfl | assumption)
/-- what stands at an address -/
local macro_rules | `(tactic| walk_at "hp") => `(tactic| first | assumption | exact upd_same | ((refine' Eq.trans (upd_ne ?hn) ?hm); (case hm => walk_at "hp"); (case hn => walk_at "ne")))
/-- two places are two -/
local macro_rules | `(tactic| walk_at "ne") => `(tactic| first
  | assumption | exact Ne.symm (by assumption)
  | ((refine' ne_of_none ?ha ?hb); (case hb => assumption); (case ha => walk_at "hp")) | ((refine' Ne.symm (ne_of_none ?ha ?hb)); (case hb => assumption); (case ha => walk_at "hp")))
/-- what a dict tells -/
local macro_rules | `(tactic| walk_at "dg") => `(tactic| first | assumption)
/-- a length -/
local macro_rules | `(tactic| walk_at "sz") => `(tactic| first | (show _ ≤ sizeLine; decide) | (show _ < sizeLine; decide) | assumption | exact szlt (by simp) | exact szle (by simp))
/-- a list or tuple that stands -/
local macro_rules | `(tactic| walk_at "lk") => `(tactic| first | assumption | exact SqL.of (by assumption) | exact SqT.of (by assumption) | exact SqL.of upd_same | exact SqT.of upd_same | (refine' FzL.sq ?hm; (case hm => walk_at "fz")))
/-- a list that nobody writes -/
local macro_rules | `(tactic| walk_at "fz") => `(tactic| first | assumption | ((refine' FzL.uw ?hm ?hx); (case hx => walk_at "hp"); (case hm => walk_at "fz")) | ((refine' FzL.nw ?hm ?hx); (case hx => assumption); (case hm => walk_at "fz")))
/-- as far as it goes by itself -/
local macro_rules | `(tactic| walk_at "g") => `(tactic| repeat walk_at "g1")
/-- the body's reading, its places in short -/
local macro_rules | `(tactic| walk_at "go") => `(tactic| ((try dsimp only [cxOf, Cx.nox, Cx.wish]); walk_at "g"))
namespace K3
open PySem PySem.Spec PyProof.Rows L2 Bq
section
variable {P : Program} {w : World} {K : PySem.W.Frag} {mg : Str → Option Value} {base : Heap}
/-! ### what the top has left -/
theorem all_mk {fl : Addr} {h : Heap} (X : K.In h) (G : h.Ns mainGlobals mg) (hfa : mg ("law" : Str) = some (.ref fl)) (c : He.SaysT K3.fa K3.fn K3.ts w K) (t1 : tupsB K = true) (t2 : tabsB K = true) (t3 : lstsB K = true) (t4 : sdsB K = true) :
    ∃ fd : FuncData, (∀ (s : Shared) (u : Value), BindsTo s fd ⟨[u], []⟩ [("_law_script", u)]) ∧ ∀ base : Heap, K.In base → base.Ns mainGlobals mg → FnOk P w K mg base CX0 113 fl fd ["_law_script"] (spLaw K) := by
  obtain ⟨fd, F⟩ := c.d.def_ 45 (d := d_law) rfl
  have e := hfa.symm.trans (He.glo_ok X G (c.d.fact 45 (f := .glo "law") rfl))
  cases e
  have b := FunD.bindsA (ps := ["_law_script"]) F fun _ _ _ _ _ _ us hl => match us, hl with | [_], _ => rfl
  exact ⟨fd, fun s v => b s [v] rfl, fun base X' G' => ok_law ⟨c, X', G', t1, t2, t3, t4⟩ F⟩
end
end K3
end

section
set_option maxRecDepth 100000
set_option maxHeartbeats 0
open PySem PySem.W PyProof.Rows
theorem PySem.Challenge.cw_queuemill_k18_texts_holds : PySem.Challenge.rw_queuemill_k18_texts.Holds := by
  w_on; o_law; k_head; (case hw => w_witness2)
  k_fill
  refine L2.walk_ofK (l := PySem.Challenge.rw_queuemill_k18_texts) (n := 63) (k := 113) (x := "_law_script") (CX := L2.CX0) (sp := K3.spLaw) rfl (by decide) rfl ⟨rfl, by decide, by decide⟩ (fun w h Y => PySem.W.kIn_of Y) ?F (fun K H a ns hl hO hS => ⟨a, ns, rfl, Bq.FzL.of hO hS, hl, fun _ => rfl⟩) (fun _ _ _ _ z => z)
  case F =>
    intro w mg fa h KX G hmg
    refine' K3.all_mk KX G hmg ?c ?t1 ?t2 ?t3 ?t4
    (case c => first | (unfold He.SaysT; kernel_rfl)); (case t1 => first | kernel_rfl); (case t2 => first | kernel_rfl); (case t3 => first | kernel_rfl); (case t4 => first | kernel_rfl)
end
