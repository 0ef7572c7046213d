import PyProof.Rows.All
import Wide.All
import OpenK.AllK
import Wide.FinOn
import HandS.Base
import HandS.Call
import HandS.List
import HandS.Comp
import HandS.Ends
import HandS.Iter
import HandS.Text
import HandS.Words
import HandS.ForMost
import HandS.IsInst
import HandS.Style
import HandS.TupAny
import HandS.Deep
import PySem.Challenge.RW_soonsaid_k04_what_it_means
set_option Elab.async false
set_option linter.all false
set_option maxRecDepth 100000
namespace Dn
open PySem L2 PySem.Spec PyProof.Rows

/-! ### heaps: B the part that never changes again, H all -/
structure Tr (B H B' H' : Hp) : Prop where
  b : Same B B'
  t : Same B' H'
  h : Same H H'
  f : ∀ a o, B' a = some o → B a = none → H a = none
theorem Tr.refl {B H : Hp} (h : Same B H) : Tr B H B H := ⟨Same.refl _, h, Same.refl _, fun a o x y => by rw [y] at x; cases x⟩
theorem Tr.trans {B H B1 H1 B2 H2 : Hp} (p : Tr B H B1 H1) (q : Tr B1 H1 B2 H2) : Tr B H B2 H2 := ⟨p.b.trans q.b, q.t, p.h.trans q.h, fun a o x y => by
  cases e : B1 a with
  | none => exact p.h.free (q.f a o x e)
  | some u => exact p.f a u e y⟩
theorem same_upd {H : Hp} {p : Addr} {o : HO} (h : H p = none) : Same H (upd H p o) := fun b u e => by rw [upd_ne (ne_of_none e h)]; exact e
theorem same_upd2 {B H : Hp} {p : Addr} {o : HO} (s : Same B H) (h : H p = none) : Same B (upd H p o) := s.trans (same_upd h)
theorem Tr.new {B H : Hp} {p : Addr} {o : HO} (s : Same B H) (h : H p = none) : Tr B H (upd B p o) (upd H p o) := ⟨same_upd (s.free h), fun b u e => by
    by_cases z : b = p
    · subst z; rw [upd_same] at e ⊢; exact e
    · rw [upd_ne z] at e ⊢; exact s b u e, same_upd h, fun a u x y => by
    by_cases z : a = p
    · subst z; exact h
    · rw [upd_ne z, y] at x; cases x⟩
/-- an object that the data do not know -/
theorem Tr.junk {B H : Hp} {p : Addr} {o : HO} (s : Same B H) (h : H p = none) : Tr B H B (upd H p o) := ⟨Same.refl _, same_upd2 s h, same_upd h, fun a u x y => by rw [y] at x; cases x⟩
theorem rd_mono {H H' : Hp} {a : Addr} {u : HO} (e : Same H H') (h : Rd H a u) : Rd H' a u := by
  rcases h with h | ⟨o, h⟩
  · exact Or.inl (e a _ h)
  · exact Or.inr ⟨o, e a _ h⟩
theorem sqL_mono {K : PySem.W.Frag} {H H' : Hp} {a : Addr} {xs : List V} (e : Same H H') (h : SqL K H a xs) : SqL K H' a xs := by
  rcases h with h | h
  · exact Or.inl (rd_mono e h)
  · exact Or.inr h
theorem sqT_mono {K : PySem.W.Frag} {H H' : Hp} {a : Addr} {xs : List V} (e : Same H H') (h : SqT K H a xs) : SqT K H' a xs := by
  rcases h with h | h
  · exact Or.inl (rd_mono e h)
  · exact Or.inr h
section
variable {K : PySem.W.Frag} {H H' : Hp}
mutual
theorem dp_mono (e : Same H H') : ∀ {v : V} {d : PyData}, Dp K H v d → Dp K H' v d
  | _, _, .non => .non
  | _, _, .bl b => .bl b
  | _, _, .int i => .int i
  | _, _, .str x => .str x
  | _, _, .lst h a => .lst (sqL_mono e h) (dpAll_mono e a)
  | _, _, .tup h a => .tup (sqT_mono e h) (dpAll_mono e a)
theorem dpAll_mono (e : Same H H') : ∀ {vs : List V} {ds : List PyData}, DpAll K H vs ds → DpAll K H' vs ds
  | _, _, .nil => .nil
  | _, _, .cons h t => .cons (dp_mono e h) (dpAll_mono e t)
end
theorem dpAll_len {us : List V} {ds : List PyData} (h : DpAll K H us ds) : us.length = ds.length := by
  induction us generalizing ds with
  | nil => cases h; rfl
  | cons v us ih => cases h with | cons a b => simp [ih b]
theorem dpAll_append {us ws : List V} {ds es : List PyData} (h : DpAll K H us ds) (g : DpAll K H ws es) : DpAll K H (us ++ ws) (ds ++ es) := by
  induction us generalizing ds with
  | nil => cases h; exact g
  | cons v us ih => cases h with | cons a b => exact .cons a (ih b)
theorem dpAll_get {vs : List V} {ds : List PyData} (h : DpAll K H vs ds) {i : Nat} {d : PyData} (e : ds[i]? = some d) : ∃ v, vs[i]? = some v ∧ Dp K H v d := by
  induction vs generalizing ds i with
  | nil => cases h; simp at e
  | cons v vs ih => cases h with
    | cons a b =>
      cases i with
      | zero => simp at e; subst e; exact ⟨v, rfl, a⟩
      | succ i => simp at e; simpa using ih b e
theorem dpAll_getV {vs : List V} {ds : List PyData} (h : DpAll K H vs ds) {i : Nat} {v : V} (e : vs[i]? = some v) : ∃ d, ds[i]? = some d ∧ Dp K H v d := by
  induction vs generalizing ds i with
  | nil => simp at e
  | cons w vs ih => cases h with
    | cons a b =>
      cases i with
      | zero => simp at e; subst e; exact ⟨_, rfl, a⟩
      | succ i => simp at e; simpa using ih b e
theorem dpAll_take {vs : List V} {ds : List PyData} (h : DpAll K H vs ds) (n : Nat) : DpAll K H (vs.take n) (ds.take n) := by
  induction vs generalizing ds n with
  | nil => cases h; simp; exact .nil
  | cons w vs ih => cases h with
    | cons a b =>
      cases n with
      | zero => exact .nil
      | succ n => exact .cons a (ih b n)
theorem dpAll_drop {vs : List V} {ds : List PyData} (h : DpAll K H vs ds) (n : Nat) : DpAll K H (vs.drop n) (ds.drop n) := by
  induction vs generalizing ds n with
  | nil => cases h; simp; exact .nil
  | cons w vs ih => cases h with
    | cons a b =>
      cases n with
      | zero => exact .cons a b
      | succ n => exact ih b n
theorem dpAll_rev {us : List V} {ds : List PyData} (h : DpAll K H us ds) : DpAll K H us.reverse ds.reverse := by
  induction us generalizing ds with
  | nil => cases h; exact .nil
  | cons w us ih => cases h with
    | cons a b => rw [List.reverse_cons, List.reverse_cons]; exact dpAll_append (ih b) (.cons a .nil)
end

/-! ### slots -/
/-- what a slot holds: data; or a list that only this slot knows, and that may grow -/
inductive Sv | d (x : PyData) | own (o : Option Addr) (xs : List PyData)
abbrev Rho := List (Option Sv)
structure Sl (K : PySem.W.Frag) (H0 B : Hp) (ρ : Rho) (σ : L2.St) (H : Hp) : Prop where
  bh : Same B H
  len : ρ.length = σ.length
  dv : ∀ {i : Nat} {x : PyData}, ρ[i]? = some (some (.d x)) → ∃ v, σ[i]? = some (some v) ∧ Dp K B v x
  ow : ∀ {i : Nat} {o : Option Addr} {xs : List PyData}, ρ[i]? = some (some (.own o xs)) → ∃ a us, σ[i]? = some (some (V.ref a)) ∧ B a = none ∧ H0 a = none ∧ H a = some (.lst us) ∧ DpAll K B us xs ∧ ∀ b, o = some b → a = b
  ap : ∀ {i j : Nat} {o o' : Option Addr} {xs ys : List PyData} {a : Addr}, ρ[i]? = some (some (.own o xs)) → ρ[j]? = some (some (.own o' ys)) → σ[i]? = some (some (V.ref a)) → σ[j]? = some (some (V.ref a)) → i = j
theorem Sl.tr {K : PySem.W.Frag} {H0 B B' H H' : Hp} {ρ : Rho} {σ : L2.St} (s : Sl K H0 B ρ σ H) (t : Tr B H B' H') : Sl K H0 B' ρ σ H' := by
  refine ⟨t.t, s.len, fun h => ?_, fun h => ?_, fun a b c d => s.ap a b c d⟩
  · obtain ⟨v, h1, h2⟩ := s.dv h
    exact ⟨v, h1, dp_mono t.b h2⟩
  · obtain ⟨a, vs, h1, h2, h3, h4, h5, h6⟩ := s.ow h
    refine ⟨a, vs, h1, ?_, h3, t.h _ _ h4, dpAll_mono t.b h5, h6⟩
    cases e : B' a with
    | none => rfl
    | some o => rw [t.f a o e h2] at h4; cases h4

/-! ### readings by data -/
def tD (K : PySem.W.Frag) (f : Rho → Option PyData) : TE := fun σ H Q => ∃ H0 B ρ d, Sl K H0 B ρ σ H ∧ f ρ = some d ∧ ∀ v B' H', Tr B H B' H' → Dp K B' v d → Q v H'
def tDT (K : PySem.W.Frag) (f : Rho → Option Bool) : TT := fun σ H Q => ∃ H0 B ρ d, Sl K H0 B ρ σ H ∧ f ρ = some d ∧ ∀ B' H', Tr B H B' H' → Q d H'
def tDA (K : PySem.W.Frag) (f : Rho → Option (List PyData)) : TA := fun σ H Q => ∃ H0 B ρ d, Sl K H0 B ρ σ H ∧ f ρ = some d ∧ ∀ v B' H', Tr B H B' H' → DpAll K B' v d → Q v H'
abbrev PD (X : Cx) (e : Expr) (f : Rho → Option PyData) : Prop := PE X e (tD X.K f)
abbrev PDT (X : Cx) (e : Expr) (f : Rho → Option Bool) : Prop := PT X e (tDT X.K f)
abbrev PDA (X : Cx) (es : List Expr) (f : Rho → Option (List PyData)) : Prop := PA X es (tDA X.K f)
theorem pe_imp {X : Cx} {e : Expr} {t t' : TE} (h : PE X e t) (i : ∀ σ H Q, t' σ H Q → t σ H Q) : PE X e t' := ⟨fun pins s σ H Q I q => h.run pins s σ H Q I (i σ H Q q)⟩
theorem pt_imp {X : Cx} {e : Expr} {t t' : TT} (h : PT X e t) (i : ∀ σ H Q, t' σ H Q → t σ H Q) : PT X e t' := ⟨fun pins s σ H Q I q => h.run pins s σ H Q I (i σ H Q q)⟩
theorem pw_imp {X : Cx} {e : Expr} {t t' : TT} (h : PW X e t) (i : ∀ σ H Q, t' σ H Q → t σ H Q) : PW X e t' := ⟨fun w pins s σ H Q I q => h.run w pins s σ H Q I (i σ H Q q)⟩
theorem pa_imp {X : Cx} {e : List Expr} {t t' : TA} (h : PA X e t) (i : ∀ σ H Q, t' σ H Q → t σ H Q) : PA X e t' := ⟨fun p pins s σ H Q I q => h.run p pins s σ H Q I (i σ H Q q)⟩
theorem ps_imp {X : Cx} {e : Stmt} {t t' : TS} (h : PS X e t) (i : ∀ D σ H, t' D σ H → t D σ H) : PS X e t' := ⟨fun pins s σ H D I q => h.run pins s σ H D I (i D σ H q)⟩
theorem pss_imp {X : Cx} {e : List Stmt} {t t' : TS} (h : PSs X e t) (i : ∀ D σ H, t' D σ H → t D σ H) : PSs X e t' := ⟨fun pins s σ H D I q => h.run pins s σ H D I (i D σ H q)⟩

section
variable {X : Cx} {e a b c : Expr} {es : List Expr} {pos : Pos} {f g h : Rho → Option PyData} {fs : Rho → Option (List PyData)} {x : Str} {i : Nat} {k : PySem.W.Frag}

/-! ### names, constants -/
def fV (i : Nat) : Rho → Option PyData := fun ρ => match ρ[i]? with
  | some (some (.d x)) => some x
  | _ => none
def fC (d : PyData) : Rho → Option PyData := fun _ => some d
theorem fV_some {ρ : Rho} {d : PyData} (h : fV i ρ = some d) : ρ[i]? = some (some (.d d)) := by
  unfold fV at h
  split at h
  · rename_i y e; rw [e, Option.some.inj h]
  · cases h
theorem pd_v (h : PE X e (tVar i)) : PD X e (fV i) := pe_imp h fun σ H Q ⟨H0, B, ρ, d, s, hf, q⟩ => by
  obtain ⟨v, h1, h2⟩ := s.dv (fV_some hf)
  exact ⟨v, h1, q v B H (Tr.refl s.bh) h2⟩
theorem pd_c {v : V} {d : PyData} (h : PE X e (tC v)) (hd : ∀ K H, Dp K H v d) : PD X e (fC d) := pe_imp h fun σ H Q ⟨H0, B, ρ, d', s, hf, q⟩ => by
  cases hf
  exact q v B H (Tr.refl s.bh) (hd _ _)
theorem pd_int {n : Int} {j pos} : PD X (.Constant (.int n) j pos) (fC (.int n)) := pd_c pe_int fun _ _ => .int n
theorem pd_bl {n : Bool} {j pos} : PD X (.Constant (.bool n) j pos) (fC (.bool n)) := pd_c pe_bl fun _ _ => .bl n
theorem pd_str {n : Str} {j pos} : PD X (.Constant (.str n) j pos) (fC (.str n)) := pd_c pe_str fun _ _ => .str n
theorem pd_non {j pos} : PD X (.Constant .none j pos) (fC .none) := pd_c pe_non fun _ _ => .non

/-! ### two operands -/
def f2 (g : PyData → PyData → Option PyData) (fa fb : Rho → Option PyData) : Rho → Option PyData := fun ρ => (fa ρ).bind fun x => (fb ρ).bind fun y => g x y
def RD (K : PySem.W.Frag) (r : R2) (g : PyData → PyData → Option PyData) : Prop := ∀ (B H : Hp) (x y : V) (dx dy d : PyData) (Q : VK), Same B H → Dp K B x dx → Dp K B y dy → g dx dy = some d → (∀ v B' H', Tr B H B' H' → Dp K B' v d → Q v H') → r x y H Q
theorem bind_some {α β : Type} {o : Option α} {k : α → Option β} {z : β} (h : o.bind k = some z) : ∃ a, o = some a ∧ k a = some z := by
  cases o with
  | none => cases h
  | some a => exact ⟨a, rfl, h⟩
theorem two {K : PySem.W.Frag} {r : R2} {g : PyData → PyData → Option PyData} {fa fb : Rho → Option PyData} (hr : RD K r g) : ∀ σ H Q, tD K (f2 g fa fb) σ H Q → tOp r (tD K fa) (tD K fb) σ H Q := fun σ H Q ⟨H0, B, ρ, d, s, hf, q⟩ => by
  obtain ⟨x, hx, hf⟩ := bind_some hf
  obtain ⟨y, hy, hf⟩ := bind_some hf
  refine ⟨H0, B, ρ, x, s, hx, fun v B1 H1 t1 d1 => ?_⟩
  refine ⟨H0, B1, ρ, y, s.tr t1, hy, fun w B2 H2 t2 d2 => ?_⟩
  exact hr B2 H2 v w x y d Q t2.t (dp_mono t2.b d1) d2 hf fun z B3 H3 t3 d3 => q z B3 H3 ((t1.trans t2).trans t3) d3
theorem pd_op {op : Operator} {r : R2} {g : PyData → PyData → Option PyData} {fa fb : Rho → Option PyData} (ho : OpR X (binaryOp op) r) (hr : RD X.K r g) (ha : PD X a fa) (hb : PD X b fb) : PD X (.BinOp a op b pos) (f2 g fa fb) := pe_imp (pe_op ho ha hb) (two hr)
theorem pd_cmp {op : CmpOp} {r : R2} {g : PyData → PyData → Option PyData} {fa fb : Rho → Option PyData} (ho : OpR X (compareOp op) r) (hr : RD X.K r g) (ha : PD X a fa) (hb : PD X b fb) (hm : behindInMarks op b = false) : PD X (.Compare a [op] [b] pos) (f2 g fa fb) := pe_imp (pe_cmpR ho ha hb hm) (two hr)
def fB (f : Rho → Option PyData) : Rho → Option Bool := fun ρ => match f ρ with
  | some (.bool b) => some b
  | _ => none
theorem fB_some {ρ : Rho} {d : Bool} (h : fB f ρ = some d) : f ρ = some (.bool d) := by
  unfold fB at h
  split at h
  · rename_i y e; rw [e, Option.some.inj h]
  · cases h
theorem of_test {K : PySem.W.Frag} {te : TE} (hi : ∀ σ H Q, tD K f σ H Q → te σ H Q) : ∀ σ H Q, tDT K (fB f) σ H Q → tTest te σ H Q := fun σ H Q ⟨H0, B, ρ, d, s, hf, q⟩ =>
  hi σ H _ ⟨H0, B, ρ, .bool d, s, fB_some hf, fun v B' H' t dd => by cases dd; exact ⟨d, rfl, q B' H' t⟩⟩
theorem pdt_cmp {op : CmpOp} {r : R2} {g : PyData → PyData → Option PyData} {fa fb : Rho → Option PyData} (ho : OpR X (compareOp op) r) (hr : RD X.K r g) (ha : PD X a fa) (hb : PD X b fb) (hm : behindInMarks op b = false) : PDT X (.Compare a [op] [b] pos) (fB (f2 g fa fb)) := pt_imp (pt_cmpR ho ha hb hm) (of_test (two hr))
theorem pdt_val (h : PD X e f) (he : ∀ whole, isTrue e X.env whole = (do let v ← whole; standAt e.pos; holding [v] (truthy v)) := by intro _; rfl) : PDT X e (fB f) := pt_imp (pt_val h he) fun σ H Q q => (of_test (te := tD X.K f) (fun _ _ _ z => z) σ H Q q)

/-! ### and, or, not, if -/
def fAndT (f g : Rho → Option Bool) : Rho → Option Bool := fun ρ => (f ρ).bind fun c => if c then g ρ else some false
def fOrT (f g : Rho → Option Bool) : Rho → Option Bool := fun ρ => (f ρ).bind fun c => if c then some true else g ρ
def fNotT (f : Rho → Option Bool) : Rho → Option Bool := fun ρ => (f ρ).bind fun c => some (!c)
variable {ft gt : Rho → Option Bool}
abbrev PDW (X : Cx) (e : Expr) (f : Rho → Option Bool) : Prop := PW X e (tDT X.K f)
theorem pdw_and1 (ha : PDT X a ft) : PDW X (.BoolOp .And [a] pos) ft := pw_and1 ha
theorem pdw_or1 (ha : PDT X a ft) : PDW X (.BoolOp .Or [a] pos) ft := pw_or1 ha
theorem pdw_and {rest} (ha : PDT X a ft) (hb : PDW X (.BoolOp .And (b :: rest) pos) gt) : PDW X (.BoolOp .And (a :: b :: rest) pos) (fAndT ft gt) := pw_imp (pw_and ha hb) fun σ H Q ⟨H0, B, ρ, d, s, hf, q⟩ => by
  obtain ⟨x, hx, hf⟩ := bind_some hf
  refine ⟨H0, B, ρ, x, s, hx, fun B1 H1 t1 => ?_⟩
  cases x with
  | true => exact ⟨H0, B1, ρ, d, s.tr t1, hf, fun B2 H2 t2 => q B2 H2 (t1.trans t2)⟩
  | false => cases hf; exact q B1 H1 t1
theorem pdw_or {rest} (ha : PDT X a ft) (hb : PDW X (.BoolOp .Or (b :: rest) pos) gt) : PDW X (.BoolOp .Or (a :: b :: rest) pos) (fOrT ft gt) := pw_imp (pw_or ha hb) fun σ H Q ⟨H0, B, ρ, d, s, hf, q⟩ => by
  obtain ⟨x, hx, hf⟩ := bind_some hf
  refine ⟨H0, B, ρ, x, s, hx, fun B1 H1 t1 => ?_⟩
  cases x with
  | true => cases hf; exact q B1 H1 t1
  | false => exact ⟨H0, B1, ρ, d, s.tr t1, hf, fun B2 H2 t2 => q B2 H2 (t1.trans t2)⟩
theorem pdt_w (h : PDW X e ft) : PDT X e ft := h.pt
theorem pdt_not (ha : PDT X a ft) : PDT X (.UnaryOp .Not a pos) (fNotT ft) := pt_imp (pt_not ha) fun σ H Q ⟨H0, B, ρ, d, s, hf, q⟩ => by
  obtain ⟨x, hx, hf⟩ := bind_some hf
  cases hf
  exact ⟨H0, B, ρ, x, s, hx, fun B1 H1 t1 => q B1 H1 t1⟩
def fAnd (f g : Rho → Option PyData) : Rho → Option PyData := fun ρ => (fB f ρ).bind fun c => if c then g ρ else some (.bool false)
def fOr (f g : Rho → Option PyData) : Rho → Option PyData := fun ρ => (fB f ρ).bind fun c => if c then some (.bool true) else g ρ
def fNot (f : Rho → Option PyData) : Rho → Option PyData := fun ρ => (fB f ρ).bind fun c => some (.bool (!c))
theorem pd_one {op} (ha : PD X a f) : PD X (.BoolOp op [a] pos) f := pe_one ha
theorem pd_and {rest} (ha : PD X a f) (hb : PD X (.BoolOp .And (b :: rest) pos) g) : PD X (.BoolOp .And (a :: b :: rest) pos) (fAnd f g) := pe_imp (pe_and ha hb) fun σ H Q ⟨H0, B, ρ, d, s, hf, q⟩ => by
  obtain ⟨x, hx, hf⟩ := bind_some hf
  refine ⟨H0, B, ρ, .bool x, s, fB_some hx, fun v B1 H1 t1 d1 => ?_⟩
  cases d1
  refine ⟨x, rfl, ?_⟩
  cases x with
  | true => exact ⟨H0, B1, ρ, d, s.tr t1, hf, fun v B2 H2 t2 d2 => q v B2 H2 (t1.trans t2) d2⟩
  | false => cases hf; exact q _ B1 H1 t1 (.bl false)
theorem pd_or {rest} (ha : PD X a f) (hb : PD X (.BoolOp .Or (b :: rest) pos) g) : PD X (.BoolOp .Or (a :: b :: rest) pos) (fOr f g) := pe_imp (pe_or ha hb) fun σ H Q ⟨H0, B, ρ, d, s, hf, q⟩ => by
  obtain ⟨x, hx, hf⟩ := bind_some hf
  refine ⟨H0, B, ρ, .bool x, s, fB_some hx, fun v B1 H1 t1 d1 => ?_⟩
  cases d1
  refine ⟨x, rfl, ?_⟩
  cases x with
  | true => cases hf; exact q _ B1 H1 t1 (.bl true)
  | false => exact ⟨H0, B1, ρ, d, s.tr t1, hf, fun v B2 H2 t2 d2 => q v B2 H2 (t1.trans t2) d2⟩
theorem pd_not (ha : PD X a f) : PD X (.UnaryOp .Not a pos) (fNot f) := pe_imp (pe_not ha) fun σ H Q ⟨H0, B, ρ, d, s, hf, q⟩ => by
  obtain ⟨x, hx, hf⟩ := bind_some hf
  cases hf
  refine ⟨H0, B, ρ, .bool x, s, fB_some hx, fun v B1 H1 t1 d1 => ?_⟩
  cases d1
  exact ⟨x, rfl, q _ B1 H1 t1 (.bl _)⟩
def fIf (c : Rho → Option Bool) (f g : Rho → Option PyData) : Rho → Option PyData := fun ρ => (c ρ).bind fun z => if z then f ρ else g ρ
theorem pd_if (hc : PDT X c ft) (ha : PD X a f) (hb : PD X b g) : PD X (.IfExp c a b pos) (fIf ft f g) := pe_imp (pe_ifExp hc ha hb) fun σ H Q ⟨H0, B, ρ, d, s, hf, q⟩ => by
  obtain ⟨x, hx, hf⟩ := bind_some hf
  refine ⟨H0, B, ρ, x, s, hx, fun B1 H1 t1 => ?_⟩
  cases x with
  | true => exact ⟨H0, B1, ρ, d, s.tr t1, hf, fun v B2 H2 t2 d2 => q v B2 H2 (t1.trans t2) d2⟩
  | false => exact ⟨H0, B1, ρ, d, s.tr t1, hf, fun v B2 H2 t2 d2 => q v B2 H2 (t1.trans t2) d2⟩

/-! ### lists of arguments, displays -/
def fNil : Rho → Option (List PyData) := fun _ => some []
def fCons (f : Rho → Option PyData) (fs : Rho → Option (List PyData)) : Rho → Option (List PyData) := fun ρ => (f ρ).bind fun x => (fs ρ).bind fun xs => some (x :: xs)
theorem pda_nil : PDA X [] fNil := pa_imp pa_nil fun σ H Q ⟨H0, B, ρ, d, s, hf, q⟩ => by cases hf; exact q _ B H (Tr.refl s.bh) .nil
theorem pda_cons (ha : PD X e f) (hr : PDA X es fs) (hs : starEach (e :: es) X.env = (false, eval e X.env) :: starEach es X.env := by rfl) : PDA X (e :: es) (fCons f fs) := pa_imp (pa_cons ha hr hs) fun σ H Q ⟨H0, B, ρ, d, s, hf, q⟩ => by
  obtain ⟨x, hx, hf⟩ := bind_some hf
  obtain ⟨xs, hxs, hf⟩ := bind_some hf
  cases hf
  refine ⟨H0, B, ρ, x, s, hx, fun v B1 H1 t1 d1 => ?_⟩
  exact ⟨H0, B1, ρ, xs, s.tr t1, hxs, fun vs B2 H2 t2 d2 => q _ B2 H2 (t1.trans t2) (.cons (dp_mono t2.b d1) d2)⟩
/-- the largest list that is made here -/
abbrev bigL : Nat := 100000
theorem bigL_le {n : Nat} (h : n ≤ bigL) : n ≤ sizeLine := Nat.le_trans h (by decide)
def fLst (fs : Rho → Option (List PyData)) : Rho → Option PyData := fun ρ => (fs ρ).bind fun xs => if xs.length ≤ bigL then some (.list xs) else none
def fTup (fs : Rho → Option (List PyData)) : Rho → Option PyData := fun ρ => (fs ρ).bind fun xs => if xs.length ≤ bigL then some (.tuple xs) else none
theorem ite_some {c : Prop} [Decidable c] {α : Type} {x z : α} (h : (if c then some x else none) = some z) : c ∧ x = z := by
  by_cases hc : c
  · rw [if_pos hc] at h; exact ⟨hc, Option.some.inj h⟩
  · rw [if_neg hc] at h; cases h
theorem pd_lst {x1} (h : PDA X es fs) : PD X (.List es x1) (fLst fs) := pe_imp (pe_lst h) fun σ H Q ⟨H0, B, ρ, d, s, hf, q⟩ => by
  obtain ⟨xs, hxs, hf⟩ := bind_some hf
  obtain ⟨hl, rfl⟩ := ite_some hf
  refine ⟨H0, B, ρ, xs, s, hxs, fun vs B1 H1 t1 d1 => ⟨by rw [dpAll_len d1]; exact bigL_le hl, fun p hp => ?_⟩⟩
  exact q _ _ _ (t1.trans (Tr.new t1.t hp)) (.lst (SqL.of upd_same) (dpAll_mono (same_upd (t1.t.free hp)) d1))
theorem pd_tup {x1} (h : PDA X es fs) : PD X (.Tuple es x1 pos) (fTup fs) := pe_imp (pe_tup h) fun σ H Q ⟨H0, B, ρ, d, s, hf, q⟩ => by
  obtain ⟨xs, hxs, hf⟩ := bind_some hf
  obtain ⟨hl, rfl⟩ := ite_some hf
  refine ⟨H0, B, ρ, xs, s, hxs, fun vs B1 H1 t1 d1 => ⟨by rw [dpAll_len d1]; exact bigL_le hl, fun p hp => ?_⟩⟩
  exact q _ _ _ (t1.trans (Tr.new t1.t hp)) (.tup (SqT.of upd_same) (dpAll_mono (same_upd (t1.t.free hp)) d1))
end
end Dn

namespace Dn
open PySem L2 PySem.Spec PyProof.Rows
section
variable {X : Cx}
/-! ### list + list, list * int, whatever the lists are -/
def rCatL (K : PySem.W.Frag) : R2 := fun x y H Q => ∃ l m xs ys, x = .ref l ∧ y = .ref m ∧ SqL K H l xs ∧ SqL K H m ys ∧ xs.length + ys.length ≤ sizeLine ∧ ∀ p, H p = none → Q (.ref p) (upd H p (.lst (xs ++ ys)))
theorem op_catL : OpR X (binaryOp .Add) (rCatL X.K) := by
  intro pins s σ H x y v u Q I hx hy ⟨l, m, xs, ys, e1, e2, h1, h2, hsz, q⟩
  subst e1 e2
  cases hx
  cases hy
  obtain ⟨its, r, p1, z1⟩ := I.list h1
  obtain ⟨jts, r2, p2, z2⟩ := I.list h2
  obtain ⟨⟨c1, d1, t1, s1⟩, o1, hc, n, hd⟩ := p1.isList
  obtain ⟨⟨c2, d2, t2, s2⟩, o2, hc2, n2, hd2⟩ := p2.isList
  simp only at hc hd hc2 hd2
  subst hc hd hc2 hd2
  have g1 := r.length
  have g2 := r2.length
  refine concat_meets ⟨_, o1, rfl⟩ ⟨_, o2, rfl⟩ noFill_list_add seq_list_add PySem.F.slot_list_add PySem.F.entry_list_add (PySem.F.args_list_add_2 _ _) (list_addW l m its.toArray jts.toArray n n2 d1 d2 s1 s2 (by simp; omega)) ⟨o1, o2, ?_⟩
  rw [show its.toArray ++ jts.toArray = (its ++ jts).toArray by simp]
  exact ⟨.ref _, _, I.lnew (t' := s.toks) (r.append r2) (by simp; omega), rfl, q _ I.fresh⟩
def rRepL (K : PySem.W.Frag) : R2 := fun x y H Q => ∃ l k xs, x = .ref l ∧ y = .int k ∧ SqL K H l xs ∧ -(2 ^ 63) ≤ k ∧ k < 2 ^ 63 ∧ xs.length * k.toNat ≤ sizeLine ∧ ∀ p, H p = none → Q (.ref p) (upd H p (.lst (List.replicate k.toNat xs).flatten))
theorem op_repL : OpR X (binaryOp .Mult) (rRepL X.K) := by
  intro pins s σ H x y v u Q I hx hy ⟨l, k, xs, e1, e2, h1, lo, hi, hsz, q⟩
  subst e1 e2
  cases hx
  obtain ⟨t, rfl⟩ := hy
  obtain ⟨its, r, p1, z1⟩ := I.list h1
  obtain ⟨⟨c1, d1, t1, s1⟩, o1, hc, n, hd⟩ := p1.isList
  simp only at hc hd
  subst hc hd
  have g1 := r.length
  have g2 := sizeLine_eq
  have g3 : its.toArray.size * k.toNat ≤ sizeLine := by simpa [← g1] using hsz
  refine wpAny_binaryOp_repeat_ref (T := "list") (U := "int") (by decide) ⟨_, o1, rfl⟩ (fun s' => typeIs_int s' k t) noFill_list_mul F.fills_int_mul F.slot_int_rmul repeat_list F.slot_int_index.lookup (call_meets F.slot_int_rmul (typeIs_int s k t) F.entry_int_rmul (F.args_int_rmul_2 _ _) (lm_int_rmul_list_any k t l its.toArray n d1 s1) ⟨o1, rfl, ⟨_, o1, rfl⟩, call_meets F.slot_list_mul ⟨_, o1, rfl⟩ F.entry_list_mul (F.args_list_mul_2 _ _) (lm_list_mul_any l its.toArray n d1 s1 k t (by simp [Builtin.List.listFitsIndex]; omega) (by omega) (by simp [Builtin.List.listTooLong]; simp at g3; omega)) ⟨o1, ?_⟩⟩)
  rw [listMul_foldl_if]
  exact ⟨.ref _, _, I.lnew (t' := s.toks) (r.rep k.toNat) (by rw [PyProof.Rows.lm_len_rep_flat, Nat.mul_comm] <;> exact hsz), rfl, q _ I.fresh⟩
end

section
variable {K : PySem.W.Frag} {B H : Hp}
theorem dpAll_rep {vs : List V} {ds : List PyData} (h : DpAll K H vs ds) : ∀ n : Nat, DpAll K H (List.replicate n vs).flatten (List.replicate n ds).flatten
  | 0 => .nil
  | n + 1 => by
    simp only [List.replicate_succ, List.flatten_cons]
    exact dpAll_append h (dpAll_rep h n)
/-- what is scalar, as a value -/
theorem newL {Q : VK} {vs : List V} {ds : List PyData} (s : Same B H) (h : DpAll K B vs ds) (q : ∀ v B' H', Tr B H B' H' → Dp K B' v (.list ds) → Q v H') {p : Addr} (hp : H p = none) : Q (.ref p) (upd H p (.lst vs)) :=
  q _ _ _ (Tr.new s hp) (.lst (SqL.of upd_same) (dpAll_mono (same_upd (s.free hp)) h))
theorem newT {Q : VK} {vs : List V} {ds : List PyData} (s : Same B H) (h : DpAll K B vs ds) (q : ∀ v B' H', Tr B H B' H' → Dp K B' v (.tuple ds) → Q v H') {p : Addr} (hp : H p = none) : Q (.ref p) (upd H p (.tup vs)) :=
  q _ _ _ (Tr.new s hp) (.tup (SqT.of upd_same) (dpAll_mono (same_upd (s.free hp)) h))

/-! ### the operators, by data -/
def ri (op : Int → Int → Int) : PyData → PyData → Option PyData
  | .int a, .int b => some (.int (op a b))
  | _, _ => none
theorem rd_ri {op : Int → Int → Int} : RD K (rI0 fun i j => .int (op i j)) (ri op) := fun B H x y dx dy d Q s hx hy hg q => by
  unfold ri at hg
  split at hg
  · cases hx; cases hy; cases hg; exact ⟨_, _, rfl, rfl, q _ B H (Tr.refl s) (.int _)⟩
  · cases hg
def rb (op : Int → Int → Bool) : PyData → PyData → Option PyData
  | .int a, .int b => some (.bool (op a b))
  | _, _ => none
theorem rd_rb {op : Int → Int → Bool} : RD K (rI0 fun i j => .bl (op i j)) (rb op) := fun B H x y dx dy d Q s hx hy hg q => by
  unfold rb at hg
  split at hg
  · cases hx; cases hy; cases hg; exact ⟨_, _, rfl, rfl, q _ B H (Tr.refl s) (.bl _)⟩
  · cases hg
theorem rd_or {r r' : R2} {g : PyData → PyData → Option PyData} (h : ∀ (B H : Hp) (x y : V) (dx dy d : PyData) (Q : VK), Same B H → Dp K B x dx → Dp K B y dy → g dx dy = some d → (∀ v B' H', Tr B H B' H' → Dp K B' v d → Q v H') → r x y H Q ∨ r' x y H Q) : RD K (fun x y H Q => r x y H Q ∨ r' x y H Q) g := h

def addD : PyData → PyData → Option PyData
  | .int a, .int b => some (.int (a + b))
  | .str a, .str b => if a.length + b.length ≤ bigL then some (.str (a ++ b)) else none
  | .list a, .list b => if a.length + b.length ≤ bigL then some (.list (a ++ b)) else none
  | _, _ => none
def rAddD (K : PySem.W.Frag) : R2 := fun x y H Q => (rI0 fun i j => .int (i + j)) x y H Q ∨ (∃ i j, x = .str i ∧ y = .str j ∧ i.length + j.length ≤ sizeLine ∧ Q (.str (i ++ j)) H) ∨ rCatL K x y H Q
theorem op_addD {X : Cx} : OpR X (binaryOp .Add) (rAddD X.K) := op_add.or (op_add_str.or op_catL)
theorem rd_add : RD K (rAddD K) addD := fun B H x y dx dy d Q s hx hy hg q => by
  unfold addD at hg
  split at hg
  · cases hx; cases hy; cases hg; exact .inl ⟨_, _, rfl, rfl, q _ B H (Tr.refl s) (.int _)⟩
  · cases hx; cases hy; obtain ⟨hl, rfl⟩ := ite_some hg; exact .inr (.inl ⟨_, _, rfl, rfl, bigL_le hl, q _ B H (Tr.refl s) (.str _)⟩)
  · cases hx with
    | lst h1 a1 => cases hy with
      | lst h2 a2 =>
        obtain ⟨hl, rfl⟩ := ite_some hg
        exact .inr (.inr ⟨_, _, _, _, rfl, rfl, sqL_mono s h1, sqL_mono s h2, by rw [dpAll_len a1, dpAll_len a2]; exact bigL_le hl, fun p hp => newL s (dpAll_append a1 a2) q hp⟩)
  · cases hg
theorem rd_sub : RD K (rI0 fun i j => .int (i - j)) (ri fun i j => i - j) := rd_ri
def mulD : PyData → PyData → Option PyData
  | .int a, .int b => if (-(2 ^ 64) < a ∧ a < 2 ^ 64) ∨ (-(2 ^ 64) < b ∧ b < 2 ^ 64) then some (.int (a * b)) else none
  | .list a, .int k => if (0 ≤ k ∧ k ≤ bigL) ∧ a.length * k.toNat ≤ bigL then some (.list (List.replicate k.toNat a).flatten) else none
  | _, _ => none
def rMulD (K : PySem.W.Frag) : R2 := fun x y H Q => (rI CMul fun i j => .int (i * j)) x y H Q ∨ rRepL K x y H Q
theorem op_mulD {X : Cx} : OpR X (binaryOp .Mult) (rMulD X.K) := op_mul.or op_repL
theorem rd_mul : RD K (rMulD K) mulD := fun B H x y dx dy d Q s hx hy hg q => by
  unfold mulD at hg
  split at hg
  · cases hx; cases hy; obtain ⟨hl, rfl⟩ := ite_some hg; exact .inl ⟨_, _, rfl, rfl, hl, q _ B H (Tr.refl s) (.int _)⟩
  · cases hy
    cases hx with
    | lst h1 a1 =>
      obtain ⟨⟨⟨hk0, hk1⟩, hl⟩, rfl⟩ := ite_some hg
      have : (bigL : Int) = 100000 := rfl
      exact .inr ⟨_, _, _, rfl, rfl, sqL_mono s h1, by omega, by omega, by rw [dpAll_len a1]; exact bigL_le hl, fun p hp => newL s (dpAll_rep a1 _) q hp⟩
  · cases hg
def modD : PyData → PyData → Option PyData
  | .int a, .int b => if 0 < b then some (.int (a % b)) else none
  | _, _ => none
theorem rd_mod : RD K (rI (fun _ j => 0 < j) fun i j => .int (i % j)) modD := fun B H x y dx dy d Q s hx hy hg q => by
  unfold modD at hg
  split at hg
  · cases hx; cases hy; obtain ⟨hl, rfl⟩ := ite_some hg; exact ⟨_, _, rfl, rfl, hl, q _ B H (Tr.refl s) (.int _)⟩
  · cases hg
def fdivD : PyData → PyData → Option PyData
  | .int a, .int b => if 0 < b ∧ b < 1073741824 then some (.int (a / b)) else none
  | _, _ => none
theorem rd_fdiv : RD K (rI CDiv fun i j => .int (i / j)) fdivD := fun B H x y dx dy d Q s hx hy hg q => by
  unfold fdivD at hg
  split at hg
  · cases hx; cases hy; obtain ⟨hl, rfl⟩ := ite_some hg; exact ⟨_, _, rfl, rfl, hl, q _ B H (Tr.refl s) (.int _)⟩
  · cases hg

/-! ### ==, in -/
def eqD : PyData → PyData → Option Bool
  | .str a, .str b => some (a == b)
  | .int a, .int b => some (a == b)
  | .bool a, .bool b => some (a == b)
  | .none, .none => some true
  | x, y => if (SeqAt.shaped x && SeqAt.shaped y) = true then some (PyData.eqv x y) else none
def eqP (x y : PyData) : Option PyData := (eqD x y).map .bool
def neP (x y : PyData) : Option PyData := (eqD x y).map fun b => .bool (!b)
def rEqA (K : PySem.W.Frag) : R2 := fun x y H Q => rEq x y H Q ∨ rEqD K x y H Q
def rNeA (K : PySem.W.Frag) : R2 := fun x y H Q => rNe x y H Q ∨ rNeD K x y H Q
theorem op_eqA {X : Cx} (hu : X.A.units + 64 < cLine) : OpR X (compareOp .Eq) (rEqA X.K) := op_eq.or (op_eqD hu)
theorem op_neA {X : Cx} (hu : X.A.units + 64 < cLine) : OpR X (compareOp .NotEq) (rNeA X.K) := op_ne.or (op_neD hu)
theorem eqA_of {x y : V} {dx dy : PyData} {b : Bool} (s : Same B H) (hx : Dp K B x dx) (hy : Dp K B y dy) (h : eqD dx dy = some b) :
    (∀ Q : VK, Q (.bl b) H → rEqA K x y H Q) ∧ (∀ Q : VK, Q (.bl (!b)) H → rNeA K x y H Q) := by
  unfold eqD at h
  split at h
  · cases hx; cases hy; cases h
    constructor
    · intro Q q; exact .inl ⟨rfl, by rw [dec_str]; exact q⟩
    · intro Q q; exact .inl ⟨rfl, by rw [dec_str]; exact q⟩
  · cases hx; cases hy; cases h
    constructor
    · intro Q q; exact .inl ⟨rfl, by rw [dec_int]; exact q⟩
    · intro Q q; exact .inl ⟨rfl, by rw [dec_int]; exact q⟩
  · cases hx; cases hy; cases h
    constructor
    · intro Q q; exact .inl ⟨rfl, by rw [dec_bl]; exact q⟩
    · intro Q q; exact .inl ⟨rfl, by rw [dec_bl]; exact q⟩
  · cases hx; cases hy; cases h
    exact ⟨fun Q q => .inl ⟨rfl, q⟩, fun Q q => .inl ⟨rfl, q⟩⟩
  · obtain ⟨hs, rfl⟩ := ite_some h
    rw [Bool.and_eq_true] at hs
    exact ⟨fun Q q => .inr ⟨_, _, dp_mono s hx, dp_mono s hy, hs.1, hs.2, q⟩, fun Q q => .inr ⟨_, _, dp_mono s hx, dp_mono s hy, hs.1, hs.2, q⟩⟩
theorem rd_eq : RD K (rEqA K) eqP := fun B H x y dx dy d Q s hx hy hg q => by
  unfold eqP at hg
  cases e : eqD dx dy with
  | none => rw [e] at hg; cases hg
  | some b => rw [e] at hg; cases hg; exact (eqA_of s hx hy e).1 Q (q _ B H (Tr.refl s) (.bl b))
theorem rd_ne : RD K (rNeA K) neP := fun B H x y dx dy d Q s hx hy hg q => by
  unfold neP at hg
  cases e : eqD dx dy with
  | none => rw [e] at hg; cases hg
  | some b => rw [e] at hg; cases hg; exact (eqA_of s hx hy e).2 Q (q _ B H (Tr.refl s) (.bl _))

/-! ### items -/
theorem dpAll_at {vs : List V} {ds : List PyData} (h : DpAll K H vs ds) {i : Int} {d : PyData} (e : atI ds i = some d) : ∃ v, atI vs i = some v ∧ Dp K H v d := by
  unfold atI at e ⊢
  rw [dpAll_len h]
  obtain ⟨j, hj, e⟩ := bind_some e
  obtain ⟨v, hv, hd⟩ := dpAll_get h e
  exact ⟨v, by rw [hj]; exact hv, hd⟩
def ixD : PyData → PyData → Option PyData
  | .list xs, .int i => atI xs i
  | .tuple xs, .int i => atI xs i
  | .str z, .int i => if z.length ≤ bigL then (atI z.cps.toList i).map fun c => .str ⟨#[c]⟩ else none
  | _, _ => none
theorem rd_ix : RD K (rIx K) ixD := fun B H x y dx dy d Q s hx hy hg q => by
  unfold ixD at hg
  split at hg
  · cases hy
    cases hx with
    | lst h a =>
      obtain ⟨v, e, hd⟩ := dpAll_at a hg
      exact .inl ⟨_, _, _, v, rfl, rfl, sqL_mono s h, e, q v B H (Tr.refl s) hd⟩
  · cases hy
    cases hx with
    | tup h a =>
      obtain ⟨v, e, hd⟩ := dpAll_at a hg
      exact .inr (.inl ⟨_, _, _, v, rfl, rfl, sqT_mono s h, e, q v B H (Tr.refl s) hd⟩)
  · cases hy
    cases hx
    split at hg
    · rename_i hl
      obtain ⟨c, hc, rfl⟩ := Option.map_eq_some_iff.mp hg
      exact .inr (.inr ⟨_, _, c, rfl, rfl, bigL_le hl, hc, q _ B H (Tr.refl s) (.str _)⟩)
    · cases hg
  · cases hg
variable {X : Cx} {a b e : Expr} {es : List Expr} {pos : Pos} {f g : Rho → Option PyData} {fs : Rho → Option (List PyData)}
theorem pd_ix (ha : PD X a f) (hb : PD X b g) (hs : PlainIx b) : PD X (.Subscript a b pos) (f2 ixD f g) := pe_imp (pe_ix ix_seq ha hb hs) (two rd_ix)

/-! ### slices -/
def cutL {α : Type} (xs : List α) (lo hi : Option Int) : List α := (xs.drop (HT.sIx xs.length 0 lo)).take (HT.sIx xs.length xs.length hi - HT.sIx xs.length 0 lo)
theorem dpAll_cut {vs : List V} {ds : List PyData} (h : DpAll K H vs ds) (lo hi : Option Int) : DpAll K H (cutV vs lo hi) (cutL ds lo hi) := by
  unfold cutV cutL
  rw [dpAll_len h]
  exact dpAll_take (dpAll_drop h _) _
def tDO (K : PySem.W.Frag) (f : Rho → Option (Option Int)) : TO := fun σ H Q => ∃ H0 B ρ d, Sl K H0 B ρ σ H ∧ f ρ = some d ∧ ∀ B' H', Tr B H B' H' → Q d H'
abbrev PDO (X : Cx) (e : Option Expr) (f : Rho → Option (Option Int)) : Prop := PO X e (tDO X.K f)
theorem po_imp {X : Cx} {e : Option Expr} {t t' : TO} (h : PO X e t) (i : ∀ σ H Q, t' σ H Q → t σ H Q) : PO X e t' := ⟨fun pins s σ H Q I q => h.run pins s σ H Q I (i σ H Q q)⟩
def fO0 : Rho → Option (Option Int) := fun _ => some none
def fO (f : Rho → Option PyData) : Rho → Option (Option Int) := fun ρ => match f ρ with
  | some (.int i) => some (some i)
  | _ => none
theorem pdo_none : PDO X none fO0 := po_imp po_none fun σ H Q ⟨H0, B, ρ, d, s, hf, q⟩ => by cases hf; exact q B H (Tr.refl s.bh)
theorem pdo_some (h : PD X e f) : PDO X (some e) (fO f) := po_imp (po_some h) fun σ H Q ⟨H0, B, ρ, d, s, hf, q⟩ => by
  unfold fO at hf
  split at hf
  · rename_i i ei
    cases hf
    exact ⟨H0, B, ρ, _, s, ei, fun v B' H' t dd => by cases dd; exact ⟨i, rfl, q B' H' t⟩⟩
  · cases hf
def slD (lo hi : Option Int) : PyData → Option PyData
  | .list xs => some (.list (cutL xs lo hi))
  | .tuple xs => if ¬ (HT.sIx xs.length 0 lo = 0 ∧ HT.sIx xs.length xs.length hi = xs.length) then some (.tuple (cutL xs lo hi)) else none
  | .str z => if z.length ≤ bigL then some (.str (cutS z lo hi)) else none
  | _ => none
def fSl (f : Rho → Option PyData) (lo hi : Rho → Option (Option Int)) : Rho → Option PyData := fun ρ => (f ρ).bind fun x => (lo ρ).bind fun l => (hi ρ).bind fun h => slD l h x
def rSlD (K : PySem.W.Frag) : V → Option Int → Option Int → Hp → VK → Prop := fun x lo hi H Q => rSlL K x lo hi H Q ∨ rSlT K x lo hi H Q ∨ rSlS x lo hi H Q
theorem sl_D {X : Cx} : SlR X (rSlD X.K) := sl_list.or (sl_tup.or sl_str)
theorem pd_sl {lo hi : Option Expr} {fl fh : Rho → Option (Option Int)} {p2 : Pos} (he : PD X e f) (hl : PDO X lo fl) (hh : PDO X hi fh) : PD X (.Subscript e (.Slice lo hi none p2) pos) (fSl f fl fh) := pe_imp (pe_slice sl_D he hl hh) fun σ H Q ⟨H0, B, ρ, d, s, hf, q⟩ => by
  obtain ⟨x, hx, hf⟩ := bind_some hf
  obtain ⟨l, hl, hf⟩ := bind_some hf
  obtain ⟨u, hu, hf⟩ := bind_some hf
  refine ⟨H0, B, ρ, x, s, hx, fun v B1 H1 t1 d1 => ⟨H0, B1, ρ, l, s.tr t1, hl, fun B2 H2 t2 => ⟨H0, B2, ρ, u, (s.tr t1).tr t2, hu, fun B3 H3 t3 => ?_⟩⟩⟩
  have d3 := dp_mono t3.b (dp_mono t2.b d1)
  have T := (t1.trans t2).trans t3
  have q3 : ∀ v B' H', Tr B3 H3 B' H' → Dp X.K B' v d → Q v H' := fun v B' H' t dd => q v B' H' (T.trans t) dd
  unfold slD at hf
  split at hf
  · cases hf
    cases d3 with
    | lst h a => exact .inl ⟨_, _, rfl, sqL_mono t3.t h, fun p hp => newL t3.t (dpAll_cut a l u) q3 hp⟩
  · obtain ⟨hw, rfl⟩ := ite_some hf
    cases d3 with
    | tup h a => exact .inr (.inl ⟨_, _, rfl, sqT_mono t3.t h, by rw [dpAll_len a]; exact hw, fun p hp => newT t3.t (dpAll_cut a l u) q3 hp⟩)
  · obtain ⟨hw, rfl⟩ := ite_some hf
    cases d3
    exact .inr (.inr ⟨_, rfl, bigL_le hw, q _ B3 H3 T (.str _)⟩)
  · cases hf

/-! ### built-ins by name -/
def RC (K : PySem.W.Frag) (r : List V → Hp → VK → Prop) (g : List PyData → Option PyData) : Prop := ∀ (B H : Hp) (vs : List V) (ds : List PyData) (d : PyData) (Q : VK), Same B H → DpAll K B vs ds → g ds = some d → (∀ v B' H', Tr B H B' H' → Dp K B' v d → Q v H') → r vs H Q
def fCl (g : List PyData → Option PyData) (fs : Rho → Option (List PyData)) : Rho → Option PyData := fun ρ => (fs ρ).bind g
theorem cb_imp {r : List V → Hp → VK → Prop} {g : List PyData → Option PyData} (hr : RC X.K r g) : ∀ σ H Q, tD X.K (fCl g fs) σ H Q → tCB r (tDA X.K fs) σ H Q := fun σ H Q ⟨H0, B, ρ, d, s, hf, q⟩ => by
  obtain ⟨xs, hxs, hf⟩ := bind_some hf
  exact ⟨H0, B, ρ, xs, s, hxs, fun v B1 H1 t1 d1 => hr B1 H1 v xs d Q t1.t d1 hf fun z B2 H2 t2 d2 => q z B2 H2 (t1.trans t2) d2⟩
theorem pd_bi {x : Str} {id : String} {r : List V → Hp → VK → Prop} {g : List PyData → Option PyData} {p : Pos} (hc : CallR X (.builtin id) r) (hr : RC X.K r g) (hg : Gl X x) (hm : X.mg x = none) (hv : bootBuiltins x = some (.builtin id)) (ha : PDA X (e :: es) fs)
    (hn : x ≠ "__name__" := by decide) (hdb : (x == ("__debug__" : Str)) = false := by decide) (he : starEach (e :: es) X.env = (false, eval e X.env) :: starEach es X.env := by rfl) (hpl : (backTo pos (starEach es X.env)).any (·.1) = false := by rfl) : PD X (.Call (.Name x p) (e :: es) [] pos) (fCl g fs) :=
  pe_imp (pe_callB hc hg hm hv ha hn hdb he hpl) (cb_imp hr)
theorem pd_ty {x : Str} {T : String} {r : List V → Hp → VK → Prop} {g : List PyData → Option PyData} {p : Pos} (hc : CallR X (.type T) r) (hr : RC X.K r g) (hg : Gl X x) (hm : X.mg x = none) (hv : bootBuiltins x = some (.type T)) (ha : PDA X (e :: es) fs)
    (hn : x ≠ "__name__" := by decide) (hdb : (x == ("__debug__" : Str)) = false := by decide) (he : starEach (e :: es) X.env = (false, eval e X.env) :: starEach es X.env := by rfl) (hpl : (backTo pos (starEach es X.env)).any (·.1) = false := by rfl) : PD X (.Call (.Name x p) (e :: es) [] pos) (fCl g fs) :=
  pe_imp (pe_callTy hc hg hm hv ha hn hdb he hpl) (cb_imp hr)
def one1 (g : PyData → Option PyData) : List PyData → Option PyData
  | [x] => g x
  | _ => none
theorem rc_one {r : List V → Hp → VK → Prop} {g : PyData → Option PyData} (h : ∀ (B H : Hp) (v : V) (x d : PyData) (Q : VK), Same B H → Dp K B v x → g x = some d → (∀ v B' H', Tr B H B' H' → Dp K B' v d → Q v H') → r [v] H Q) : RC K r (one1 g) := fun B H vs ds d Q s hd hg q => by
  unfold one1 at hg
  split at hg
  · cases hd with
    | cons a b => cases b; exact h B H _ _ d Q s a hg q
  · cases hg
def lenD : PyData → Option PyData
  | .list xs => some (.int xs.length)
  | .tuple xs => some (.int xs.length)
  | .str z => if z.length ≤ bigL then some (.int z.length) else none
  | _ => none
def rLenD (K : PySem.W.Frag) : List V → Hp → VK → Prop := fun xs H Q => (∃ p ys, xs = [.ref p] ∧ (SqL K H p ys ∨ SqT K H p ys) ∧ Q (.int ys.length) H) ∨ (∃ z, xs = [.str z] ∧ z.length ≤ sizeLine ∧ Q (.int z.length) H)
theorem call_lenD0 {X : Cx} : CallR X (.builtin "len") (rLenD X.K) := call_len_seq.or call_len_str
theorem rc_len : RC K (rLenD K) (one1 lenD) := rc_one fun B H v x d Q s hx hg q => by
  unfold lenD at hg
  split at hg
  · cases hg; cases hx with
    | lst h a => exact .inl ⟨_, _, rfl, .inl (sqL_mono s h), by rw [dpAll_len a]; exact q _ B H (Tr.refl s) (.int _)⟩
  · cases hg; cases hx with
    | tup h a => exact .inl ⟨_, _, rfl, .inr (sqT_mono s h), by rw [dpAll_len a]; exact q _ B H (Tr.refl s) (.int _)⟩
  · obtain ⟨hl, rfl⟩ := ite_some hg; cases hx; exact .inr ⟨_, rfl, bigL_le hl, q _ B H (Tr.refl s) (.int _)⟩
  · cases hg
/-- a list of truth values -/
def boolsD : List PyData → Option (List Bool)
  | [] => some []
  | .bool b :: r => (boolsD r).map (b :: ·)
  | _ => none
theorem bools_of {vs : List V} : ∀ {ds : List PyData} {bs : List Bool}, DpAll K H vs ds → boolsD ds = some bs → vs = bs.map V.bl := by
  induction vs with
  | nil => intro ds bs h e; cases h; cases e; rfl
  | cons v vs ih =>
    intro ds bs h e
    cases h with
    | cons a b =>
      unfold boolsD at e
      split at e
      · rename_i z; cases z
      · rename_i k r hz
        cases hz
        cases a
        obtain ⟨bs', e', rfl⟩ := Option.map_eq_some_iff.mp e
        rw [ih b e']; rfl
      · cases e
theorem boolsD_map (bs : List Bool) : boolsD (bs.map PyData.bool) = some bs := by
  induction bs with
  | nil => rfl
  | cons b r ih => rw [List.map_cons, boolsD, ih]; rfl
def anyD : PyData → Option PyData
  | .list xs => (boolsD xs).map fun bs => .bool (bs.any id)
  | _ => none
theorem rc_any : RC K (rAny K) (one1 anyD) := rc_one fun B H v x d Q s hx hg q => by
  unfold anyD at hg
  split at hg
  · obtain ⟨bs, e, rfl⟩ := Option.map_eq_some_iff.mp hg
    cases hx with
    | lst h a => exact ⟨_, bs, rfl, by rw [← bools_of a e]; exact sqL_mono s h, q _ B H (Tr.refl s) (.bl _)⟩
  · cases hg
def allD : PyData → Option PyData
  | .list xs => (boolsD xs).map fun bs => .bool (bs.all id)
  | _ => none
theorem rc_all : RC K (rAll K) (one1 allD) := rc_one fun B H v x d Q s hx hg q => by
  unfold allD at hg
  split at hg
  · obtain ⟨bs, e, rfl⟩ := Option.map_eq_some_iff.mp hg
    cases hx with
    | lst h a => exact ⟨_, bs, rfl, by rw [← bools_of a e]; exact sqL_mono s h, q _ B H (Tr.refl s) (.bl _)⟩
  · cases hg
def listD : PyData → Option PyData
  | .list xs => some (.list xs)
  | .tuple xs => some (.list xs)
  | _ => none
theorem rc_list : RC K (fun xs H Q => ∃ p ys, xs = [.ref p] ∧ (SqL K H p ys ∨ SqT K H p ys) ∧ ∀ l, H l = none → Q (.ref l) (upd H l (.lst ys))) (one1 listD) := rc_one fun B H v x d Q s hx hg q => by
  unfold listD at hg
  split at hg
  · cases hg; cases hx with
    | lst h a => exact ⟨_, _, rfl, .inl (sqL_mono s h), fun p hp => newL s a q hp⟩
  · cases hg; cases hx with
    | tup h a => exact ⟨_, _, rfl, .inr (sqT_mono s h), fun p hp => newL s a q hp⟩
  · cases hg
def tupleD : PyData → Option PyData
  | .list xs => some (.tuple xs)
  | .tuple xs => some (.tuple xs)
  | _ => none
theorem rc_tuple : RC K (fun xs H Q => ∃ p ys, xs = [.ref p] ∧ ((SqL K H p ys ∧ ∀ l, H l = none → Q (.ref l) (upd H l (.tup ys))) ∨ (SqT K H p ys ∧ Q (.ref p) H))) (one1 tupleD) := rc_one fun B H v x d Q s hx hg q => by
  unfold tupleD at hg
  split at hg
  · cases hg; cases hx with
    | lst h a => exact ⟨_, _, rfl, .inl ⟨sqL_mono s h, fun p hp => newT s a q hp⟩⟩
  · cases hg; cases hx with
    | tup h a => exact ⟨_, _, rfl, .inr ⟨sqT_mono s h, q _ B H (Tr.refl s) (.tup h a)⟩⟩
  · cases hg
def intD : PyData → Option PyData
  | .int i => some (.int i)
  | .bool c => some (.int (if c then 1 else 0))
  | _ => none
theorem rc_int : RC K (fun xs H Q => (∃ i, xs = [.int i] ∧ Q (.int i) H) ∨ ∃ k, xs = [.bl k] ∧ Q (.int (if k then 1 else 0)) H) (one1 intD) := rc_one fun B H v x d Q s hx hg q => by
  unfold intD at hg
  split at hg
  · cases hg; cases hx; exact .inl ⟨_, rfl, q _ B H (Tr.refl s) (.int _)⟩
  · cases hg; cases hx; exact .inr ⟨_, rfl, q _ B H (Tr.refl s) (.int _)⟩
  · cases hg

/-! ### texts -/
def strsD : List PyData → Option (List Str)
  | [] => some []
  | .str b :: r => (strsD r).map (b :: ·)
  | _ => none
theorem strs_of {vs : List V} : ∀ {ds : List PyData} {bs : List Str}, DpAll K H vs ds → strsD ds = some bs → vs = bs.map V.str := by
  induction vs with
  | nil => intro ds bs h e; cases h; cases e; rfl
  | cons v vs ih =>
    intro ds bs h e
    cases h with
    | cons a b =>
      unfold strsD at e
      split at e
      · rename_i z; cases z
      · rename_i k r hz
        cases hz
        cases a
        obtain ⟨bs', e', rfl⟩ := Option.map_eq_some_iff.mp e
        rw [ih b e']; rfl
      · cases e
theorem strsD_map (bs : List Str) : strsD (bs.map PyData.str) = some bs := by
  induction bs with
  | nil => rfl
  | cons b r ih => rw [List.map_cons, strsD, ih]; rfl
def joinD : PyData → List PyData → Option PyData
  | .str a, [.list xs] => (strsD xs).bind fun ys => if (ys.map (·.length)).sum + ys.length * a.length ≤ bigL then some (.str (Txt.join a ys)) else none
  | _, _ => none
def splitD : PyData → List PyData → Option PyData
  | .str a, [.str b] => if (b.length == 0) = false ∧ a.length + 2 ≤ bigL then some (.list ((Txt.split a b).map .str)) else none
  | _, _ => none
def fMt (g : PyData → List PyData → Option PyData) (f : Rho → Option PyData) (fs : Rho → Option (List PyData)) : Rho → Option PyData := fun ρ => (f ρ).bind fun x => (fs ρ).bind fun xs => g x xs
def RM (K : PySem.W.Frag) (T : String) (r : V → List V → Hp → VK → Prop) (g : PyData → List PyData → Option PyData) : Prop := ∀ (B H : Hp) (v : V) (vs : List V) (x : PyData) (ds : List PyData) (d : PyData) (Q : VK), Same B H → Dp K B v x → DpAll K B vs ds → g x ds = some d → (∀ v B' H', Tr B H B' H' → Dp K B' v d → Q v H') → r v vs H Q
def TyD (K : PySem.W.Frag) (T : String) (g : PyData → List PyData → Option PyData) : Prop := ∀ (B H : Hp) (v : V) (x : PyData) (ds : List PyData) (d : PyData), Same B H → Dp K B v x → g x ds = some d → tyV K T v H
theorem pd_bm {o : Expr} {name : Str} {apos cpos : Pos} {T id : String} {r : V → List V → Hp → VK → Prop} {g : PyData → List PyData → Option PyData} (pa : PlainAttrs T) (slot : Slot T name id) (hty : typeOf (.builtin id) = pure (.type "method_descriptor")) (hm : MtR X id r) (hr : RM X.K T r g) (hT : TyD X.K T g) (ho : PD X o f) (ha : PDA X (e :: es) fs) (hbase : attributeBase o name X.env (eval o X.env) = eval o X.env := by rfl) (hfew : ((backTo cpos (starEach (e :: es) X.env)).all (fun x => !x.1) && (backToKw cpos (keywordEach [] X.env)).all (fun x => x.1.isSome) && decide ((e :: es).length + ([] : List Keyword).length + (if ([] : List Keyword).isEmpty then 0 else 1) < 30)) = true := by rfl) (hline : (apos.endLine == cpos.line) = true := by rfl) (hs : starEach (e :: es) X.env = (false, eval e X.env) :: starEach es X.env := by rfl) (hplain : (backTo cpos (starEach es X.env)).any (·.1) = false := by rfl) : PD X (.Call (.Attribute o name apos) (e :: es) [] cpos) (fMt g f fs):= pe_imp (pe_bm pa slot hty hm ho ha hbase hfew hline hs hplain) fun σ H Q ⟨H0, B, ρ, d, s, hf, q⟩ => by
  obtain ⟨x, hx, hf⟩ := bind_some hf
  obtain ⟨xs, hxs, hf⟩ := bind_some hf
  refine ⟨H0, B, ρ, x, s, hx, fun v B1 H1 t1 d1 => ⟨hT B1 H1 v x xs d t1.t d1 hf, H0, B1, ρ, xs, s.tr t1, hxs, fun vs B2 H2 t2 d2 => ?_⟩⟩
  exact hr B2 H2 v vs x xs d Q t2.t (dp_mono t2.b d1) d2 hf fun z B3 H3 t3 d3 => q z B3 H3 ((t1.trans t2).trans t3) d3
theorem ty_join : TyD K "str" joinD := fun B H v x ds d s hx hg => by
  unfold joinD at hg
  split at hg
  · cases hx; rfl
  · cases hg
theorem ty_split : TyD K "str" splitD := fun B H v x ds d s hx hg => by
  unfold splitD at hg
  split at hg
  · cases hx; rfl
  · cases hg
theorem rm_join : RM K "str" (fun x xs H Q => ∃ a p, ∃ ys : List Str, x = .str a ∧ xs = [.ref p] ∧ (SqL K H p (ys.map V.str) ∨ SqT K H p (ys.map V.str)) ∧
    (ys.map (·.length)).sum + ys.length * a.length ≤ 16777216 ∧ Q (.str (Txt.join a ys)) H) joinD := fun B H v vs x ds d Q s hx hds hg q => by
  unfold joinD at hg
  split at hg
  · cases hx
    cases hds with
    | cons h1 h2 =>
      cases h2
      obtain ⟨ys, hy, hg⟩ := bind_some hg
      obtain ⟨hl, rfl⟩ := ite_some hg
      cases h1 with
      | lst h a => exact ⟨_, _, ys, rfl, rfl, .inl (by rw [← strs_of a hy]; exact sqL_mono s h), Nat.le_trans hl (by decide), q _ B H (Tr.refl s) (.str _)⟩
  · cases hg
theorem dp_strs (ys : List Str) : DpAll K H (ys.map V.str) (ys.map PyData.str) := by
  induction ys with
  | nil => exact .nil
  | cons y r ih => exact .cons (.str y) ih
theorem rm_split : RM K "str" (fun x xs H Q => ∃ a b, x = .str a ∧ xs = [.str b] ∧ (b.length == 0) = false ∧ a.length + 2 ≤ sizeLine ∧ rNewStrs (Txt.split a b) H Q) splitD := fun B H v vs x ds d Q s hx hds hg q => by
  unfold splitD at hg
  split at hg
  · cases hx
    cases hds with
    | cons h1 h2 =>
      cases h2
      cases h1
      obtain ⟨⟨h1, h2⟩, rfl⟩ := ite_some hg
      exact ⟨_, _, rfl, rfl, h1, bigL_le h2, fun p hp => newL s (dp_strs _) q hp⟩
  · cases hg
end
end Dn

namespace Dn
open PySem L2 PySem.Spec PyProof.Rows

/-! ### what is walked, by data -/
def ItD (K : PySem.W.Frag) (B : Hp) (J : It) (xs : List PyData) : Prop :=
  (∀ H, Same B H → J.stop xs.length H) ∧ ∀ (i : Nat) (d : PyData), xs[i]? = some d → ∀ H, Same B H → J.go i H ∧ ∀ x H', J.yld i H x H' → ∀ B1, Same B B1 → Same B1 H → ∃ B2, Tr B1 H B2 H' ∧ Dp K B2 x d
def tDI (K : PySem.W.Frag) (f : Rho → Option (List PyData)) : TI := fun σ H R => ∃ H0 B ρ d, Sl K H0 B ρ σ H ∧ f ρ = some d ∧ ∀ J B' H', Tr B H B' H' → ItD K B' J d → R J H'
abbrev PDI (X : Cx) (tg e : Expr) (f : Rho → Option (List PyData)) : Prop := PI X tg e (tDI X.K f)
theorem pi_imp {X : Cx} {tg e : Expr} {t t' : TI} (h : PI X tg e t) (i : ∀ σ H Q, t' σ H Q → t σ H Q) : PI X tg e t' := ⟨fun pins s σ H Q I q => h.run pins s σ H Q I (i σ H Q q)⟩
section
variable {K : PySem.W.Frag} {B H : Hp}
theorem itD_list {a : Addr} {vs : List V} {ds : List PyData} (h : SqL K B a vs) (hd : DpAll K B vs ds) : ItD K B (Itl K a) ds := by
  refine ⟨fun H s => ⟨vs, sqL_mono s h, Nat.le_of_eq (dpAll_len hd)⟩, fun i d e H s => ?_⟩
  obtain ⟨v, hv, hdv⟩ := dpAll_get hd e
  refine ⟨⟨vs, v, sqL_mono s h, hv⟩, fun x H' y B1 s1 s2 => ?_⟩
  obtain ⟨rfl, y⟩ := y
  have z := y vs (sqL_mono s h)
  rw [hv] at z
  cases z
  exact ⟨B1, Tr.refl s2, dp_mono s1 hdv⟩
theorem itD_tup {a : Addr} {vs : List V} {ds : List PyData} (h : SqT K B a vs) (hd : DpAll K B vs ds) : ItD K B (Itt K a) ds := by
  refine ⟨fun H s => ⟨vs, sqT_mono s h, Nat.le_of_eq (dpAll_len hd)⟩, fun i d e H s => ?_⟩
  obtain ⟨v, hv, hdv⟩ := dpAll_get hd e
  refine ⟨⟨vs, v, sqT_mono s h, hv⟩, fun x H' y B1 s1 s2 => ?_⟩
  obtain ⟨rfl, y⟩ := y
  have z := y vs (sqT_mono s h)
  rw [hv] at z
  cases z
  exact ⟨B1, Tr.refl s2, dp_mono s1 hdv⟩
def signsD (z : Str) : List PyData := z.cps.toList.map fun c => .str ⟨#[c]⟩
theorem itD_str {z : Str} : ItD K B (Its z) (signsD z) := by
  refine ⟨fun H s => by show z.cps.size ≤ (signsD z).length; simp [signsD], fun i d e H s => ?_⟩
  unfold signsD at e
  rw [List.getElem?_map] at e
  obtain ⟨c, hc, rfl⟩ := Option.map_eq_some_iff.mp e
  have hi : i < z.cps.size := by
    have := (List.getElem?_eq_some_iff.mp hc).1
    simpa using this
  refine ⟨hi, fun x H' y B1 s1 s2 => ?_⟩
  obtain ⟨rfl, c', hc', rfl⟩ := y
  have : z.cps.toList[i]? = some c' := by simpa using hc'
  rw [hc] at this
  cases this
  exact ⟨B1, Tr.refl s2, .str _⟩
def intsFrom (lo : Int) (n : Nat) : List PyData := (List.range n).map fun i => .int (lo + (i : Nat))
theorem itD_range {lo : Int} {n : Nat} : ItD K B (Itr lo n) (intsFrom lo n) := by
  refine ⟨fun H s => by show n ≤ (intsFrom lo n).length; simp [intsFrom], fun i d e H s => ?_⟩
  unfold intsFrom at e
  rw [List.getElem?_map] at e
  obtain ⟨c, hc, rfl⟩ := Option.map_eq_some_iff.mp e
  have hi : i < n := by
    have := (List.getElem?_eq_some_iff.mp hc).1
    simpa using this
  rw [List.getElem?_range hi] at hc
  cases hc
  refine ⟨hi, fun x H' y B1 s1 s2 => ?_⟩
  obtain ⟨rfl, rfl⟩ := y
  exact ⟨B1, Tr.refl s2, .int _⟩
def zipD (xs ys : List PyData) : List PyData := (xs.zip ys).map fun p => .tuple [p.1, p.2]
theorem itD_zip {a b : Addr} {vs ws : List V} {ds es : List PyData} (h : SqL K B a vs) (hd : DpAll K B vs ds) (h' : SqL K B b ws) (hd' : DpAll K B ws es) : ItD K B (Itz K a b) (zipD ds es) := by
  refine ⟨fun H s => ⟨vs, ws, sqL_mono s h, sqL_mono s h', ?_⟩, fun i d e H s => ?_⟩
  · have h1 := dpAll_len hd
    have h2 := dpAll_len hd'
    have h3 : (zipD ds es).length = min ds.length es.length := by simp [zipD, List.length_zip]
    omega
  · unfold zipD at e
    rw [List.getElem?_map] at e
    obtain ⟨⟨c1, c2⟩, hc, rfl⟩ := Option.map_eq_some_iff.mp e
    rw [List.getElem?_zip_eq_some] at hc
    obtain ⟨v, hv, hdv⟩ := dpAll_get hd hc.1
    obtain ⟨w, hw, hdw⟩ := dpAll_get hd' hc.2
    refine ⟨⟨vs, ws, v, w, sqL_mono s h, sqL_mono s h', hv, hw⟩, fun x H' y B1 s1 s2 => ?_⟩
    obtain ⟨T, x1, y1, rfl, hT, rfl, z1, z2⟩ := y
    have z1 := z1 vs (sqL_mono s h)
    have z2 := z2 ws (sqL_mono s h')
    rw [hv] at z1
    rw [hw] at z2
    cases z1
    cases z2
    exact ⟨_, Tr.new s2 hT, .tup (SqT.of upd_same) (.cons (dp_mono (s1.trans (same_upd (s2.free hT))) hdv) (.cons (dp_mono (s1.trans (same_upd (s2.free hT))) hdw) .nil))⟩
variable {X : Cx} {tg e e2 : Expr} {f g : Rho → Option PyData}
def seqD : PyData → Option (List PyData)
  | .list xs => some xs
  | .tuple xs => some xs
  | .str z => some (signsD z)
  | _ => none
def fSeq (f : Rho → Option PyData) : Rho → Option (List PyData) := fun ρ => (f ρ).bind seqD
theorem pdi_seq (he : PD X e f) : PDI X tg e (fSeq f) := ⟨fun pins s σ H R I ⟨H0, B, ρ, d, sl, hf, q⟩ => by
  obtain ⟨x, hx, hf⟩ := bind_some hf
  unfold seqD at hf
  split at hf
  · cases hf
    exact (pi_list he).run pins s σ H R I ⟨H0, B, ρ, _, sl, hx, fun v B1 H1 t1 d1 => by
      cases d1 with | lst h a => exact ⟨_, rfl, ⟨_, sqL_mono t1.t h⟩, q _ B1 H1 t1 (itD_list h a)⟩⟩
  · cases hf
    exact (pi_tup he).run pins s σ H R I ⟨H0, B, ρ, _, sl, hx, fun v B1 H1 t1 d1 => by
      cases d1 with | tup h a => exact ⟨_, rfl, ⟨_, sqT_mono t1.t h⟩, q _ B1 H1 t1 (itD_tup h a)⟩⟩
  · cases hf
    exact (pi_str he).run pins s σ H R I ⟨H0, B, ρ, _, sl, hx, fun v B1 H1 t1 d1 => by
      cases d1; exact ⟨_, rfl, q _ B1 H1 t1 itD_str⟩⟩
  · cases hf⟩
def range1D : PyData → Option (List PyData)
  | .int n => if n.natAbs ≤ 1000000 then some (intsFrom 0 n.toNat) else none
  | _ => none
def fR1 (f : Rho → Option PyData) : Rho → Option (List PyData) := fun ρ => (f ρ).bind range1D
theorem pdi_range1 {a : Expr} {p pos : Pos} (hg : Gl X "range") (hm : X.mg "range" = none) (ha : PD X a f) (h0 : starEach [a] X.env = (false, eval a X.env) :: starEach [] X.env := by rfl) (hs : starEach [a] X.env = [(false, eval a X.env)] := by rfl) : PDI X tg (.Call (.Name "range" p) [a] [] pos) (fR1 f) := pi_imp (pi_range1 hg hm (pa_cons ha pa_nil h0) hs) fun σ H R ⟨H0, B, ρ, d, sl, hf, q⟩ => by
  obtain ⟨x, hx, hf⟩ := bind_some hf
  refine ⟨H0, B, ρ, x, sl, hx, fun v B1 H1 t1 d1 => ?_⟩
  unfold range1D at hf
  split at hf
  · obtain ⟨hn, rfl⟩ := ite_some hf
    cases d1
    exact ⟨_, rfl, by omega, by omega, q _ B1 H1 t1 itD_range⟩
  · cases hf
def range2D : PyData → PyData → Option (List PyData)
  | .int i, .int j => if i.natAbs ≤ 1000000 ∧ j.natAbs ≤ 1000000 then some (intsFrom i (j - i).toNat) else none
  | _, _ => none
def fR2 (f g : Rho → Option PyData) : Rho → Option (List PyData) := fun ρ => (f ρ).bind fun x => (g ρ).bind fun y => range2D x y
theorem pdi_range2 {a b : Expr} {p pos : Pos} (hg : Gl X "range") (hm : X.mg "range" = none) (ha : PD X a f) (hb : PD X b g) (h0 : starEach [b] X.env = (false, eval b X.env) :: starEach [] X.env := by rfl) (h1 : starEach [a, b] X.env = (false, eval a X.env) :: starEach [b] X.env := by rfl)
    (hs : starEach [a, b] X.env = [(false, eval a X.env), (false, eval b X.env)] := by rfl) (hs2 : starEach [b] X.env = [(false, eval b X.env)] := by rfl) : PDI X tg (.Call (.Name "range" p) [a, b] [] pos) (fR2 f g) := pi_imp (pi_range2 hg hm (pa_cons ha (pa_cons hb pa_nil h0) h1) hs hs2) fun σ H R ⟨H0, B, ρ, d, sl, hf, q⟩ => by
  obtain ⟨x, hx, hf⟩ := bind_some hf
  obtain ⟨y, hy, hf⟩ := bind_some hf
  refine ⟨H0, B, ρ, x, sl, hx, fun v B1 H1 t1 d1 => ⟨H0, B1, ρ, y, sl.tr t1, hy, fun w B2 H2 t2 d2 => ?_⟩⟩
  have d3 := dp_mono t2.b d1
  unfold range2D at hf
  split at hf
  · obtain ⟨hn, rfl⟩ := ite_some hf
    cases d3
    cases d2
    exact ⟨_, _, rfl, ⟨by omega, by omega, by omega, by omega⟩, q _ B2 H2 (t1.trans t2) itD_range⟩
  · cases hf
def zip2D : PyData → PyData → Option (List PyData)
  | .list xs, .list ys => some (zipD xs ys)
  | _, _ => none
def fZ (f g : Rho → Option PyData) : Rho → Option (List PyData) := fun ρ => (f ρ).bind fun x => (g ρ).bind fun y => zip2D x y
theorem pdi_zip {a b : Expr} {p pos tpos : Pos} {elts : List Expr} {kk : Nat} (hg : Gl X "zip") (hm : X.mg "zip" = none) (ha : PD X a f) (hb : PD X b g) (h0 : starEach [b] X.env = (false, eval b X.env) :: starEach [] X.env := by rfl)
    (hs : starEach [a, b] X.env = (false, eval a X.env) :: starEach [b] X.env := by rfl) (hpl : (backTo pos (starEach [b] X.env)).any (·.1) = false := by rfl) : PDI X (.Tuple elts kk tpos) (.Call (.Name "zip" p) [a, b] [] pos) (fZ f g) := pi_imp (pi_zip hg hm (pa_cons ha (pa_cons hb pa_nil h0) hs) hs hpl) fun σ H R ⟨H0, B, ρ, d, sl, hf, q⟩ => by
  obtain ⟨x, hx, hf⟩ := bind_some hf
  obtain ⟨y, hy, hf⟩ := bind_some hf
  refine ⟨H0, B, ρ, x, sl, hx, fun v B1 H1 t1 d1 => ⟨H0, B1, ρ, y, sl.tr t1, hy, fun w B2 H2 t2 d2 => ?_⟩⟩
  have d3 := dp_mono t2.b d1
  unfold zip2D at hf
  split at hf
  · cases hf
    cases d3 with
    | lst h1 a1 => cases d2 with
      | lst h2 a2 => exact ⟨_, _, _, _, rfl, sqL_mono t2.t h1, sqL_mono t2.t h2, q _ B2 H2 (t1.trans t2) (itD_zip h1 a1 h2 a2)⟩
  · cases hf
end

/-! ### slots set -/
section
variable {K : PySem.W.Frag} {H0 B H : Hp} {ρ : Rho} {σ : L2.St}
theorem get_set {α : Type} {l : List α} {i j : Nat} {x y : α} (h : (l.set i x)[j]? = some y) : (i = j ∧ j < l.length ∧ x = y) ∨ (i ≠ j ∧ l[j]? = some y) := by
  by_cases e : i = j
  · subst e
    by_cases hl : i < l.length
    · rw [List.getElem?_set_self hl] at h; exact .inl ⟨rfl, hl, Option.some.inj h⟩
    · rw [List.getElem?_eq_none (by simpa using hl)] at h; cases h
  · rw [List.getElem?_set_ne e] at h; exact .inr ⟨e, h⟩
theorem sl_setD (s : Sl K H0 B ρ σ H) {i : Nat} {v : V} {x : PyData} (h : Dp K B v x) : Sl K H0 B (ρ.set i (some (.d x))) (σ.set i (some v)) H := by
  refine ⟨s.bh, by simp [s.len], fun {j y} e => ?_, fun {j o ys} e => ?_, fun {j k o o' xs ys a} e1 e2 e3 e4 => ?_⟩
  · rcases get_set e with ⟨rfl, hl, z⟩ | ⟨hn, e⟩
    · cases z
      exact ⟨v, List.getElem?_set_self (by rw [← s.len]; exact hl), h⟩
    · obtain ⟨w, h1, h2⟩ := s.dv e
      exact ⟨w, by rw [List.getElem?_set_ne hn]; exact h1, h2⟩
  · rcases get_set e with ⟨rfl, hl, z⟩ | ⟨hn, e⟩
    · cases z
    · obtain ⟨a, vs, h1, h2⟩ := s.ow e
      exact ⟨a, vs, by rw [List.getElem?_set_ne hn]; exact h1, h2⟩
  · rcases get_set e1 with ⟨_, _, z⟩ | ⟨n1, e1⟩
    · cases z
    · rcases get_set e2 with ⟨_, _, z⟩ | ⟨n2, e2⟩
      · cases z
      · rw [List.getElem?_set_ne n1] at e3
        rw [List.getElem?_set_ne n2] at e4
        exact s.ap e1 e2 e3 e4
/-- a new list, known to this slot alone -/
theorem sl_setO (s : Sl K H0 B ρ σ H) {i : Nat} {a : Addr} {vs : List V} {xs : List PyData} {o : Option Addr} (hb : B a = none) (h0 : H0 a = none) (ha : H a = some (.lst vs)) (hd : DpAll K B vs xs) (ho : ∀ b, o = some b → a = b)
    (new : ∀ {j : Nat} {o' : Option Addr} {ys : List PyData}, j ≠ i → ρ[j]? = some (some (.own o' ys)) → σ[j]? ≠ some (some (V.ref a))) : Sl K H0 B (ρ.set i (some (.own o xs))) (σ.set i (some (.ref a))) H := by
  refine ⟨s.bh, by simp [s.len], fun {j y} e => ?_, fun {j oj ys} e => ?_, fun {j k oj ok us ys c} e1 e2 e3 e4 => ?_⟩
  · rcases get_set e with ⟨rfl, hl, z⟩ | ⟨hn, e⟩
    · cases z
    · obtain ⟨w, h1, h2⟩ := s.dv e
      exact ⟨w, by rw [List.getElem?_set_ne hn]; exact h1, h2⟩
  · rcases get_set e with ⟨rfl, hl, z⟩ | ⟨hn, e⟩
    · cases z
      exact ⟨a, vs, List.getElem?_set_self (by rw [← s.len]; exact hl), hb, h0, ha, hd, ho⟩
    · obtain ⟨c, ws, h1, h2⟩ := s.ow e
      exact ⟨c, ws, by rw [List.getElem?_set_ne hn]; exact h1, h2⟩
  · rcases get_set e1 with ⟨rfl, l1, z1⟩ | ⟨n1, e1⟩
    · rcases get_set e2 with ⟨rfl, l2, z2⟩ | ⟨n2, e2⟩
      · rfl
      · rw [List.getElem?_set_ne n2] at e4
        rw [List.getElem?_set_self (by rw [← s.len]; exact l1)] at e3
        cases e3
        exact absurd e4 (new (fun z => n2 z.symm) e2)
    · rcases get_set e2 with ⟨rfl, l2, z2⟩ | ⟨n2, e2⟩
      · rw [List.getElem?_set_ne n1] at e3
        rw [List.getElem?_set_self (by rw [← s.len]; exact l2)] at e4
        cases e4
        exact absurd e3 (new (fun z => n1 z.symm) e1)
      · rw [List.getElem?_set_ne n1] at e3
        rw [List.getElem?_set_ne n2] at e4
        exact s.ap e1 e2 e3 e4
def wipeR (ρ : Rho) : List Nat → Rho
  | [] => ρ
  | v :: vs => (wipeR ρ vs).set v none
theorem sl_none (s : Sl K H0 B ρ σ H) (i : Nat) : Sl K H0 B (ρ.set i none) (σ.set i none) H := by
  refine ⟨s.bh, by simp [s.len], fun {j y} e => ?_, fun {j oj ys} e => ?_, fun {j k oj ok us ys c} e1 e2 e3 e4 => ?_⟩
  · rcases get_set e with ⟨rfl, hl, z⟩ | ⟨hn, e⟩
    · cases z
    · rw [List.getElem?_set_ne hn]; exact s.dv e
  · rcases get_set e with ⟨rfl, hl, z⟩ | ⟨hn, e⟩
    · cases z
    · rw [List.getElem?_set_ne hn]; exact s.ow e
  · rcases get_set e1 with ⟨_, _, z⟩ | ⟨n1, e1⟩
    · cases z
    · rcases get_set e2 with ⟨_, _, z⟩ | ⟨n2, e2⟩
      · cases z
      · rw [List.getElem?_set_ne n1] at e3
        rw [List.getElem?_set_ne n2] at e4
        exact s.ap e1 e2 e3 e4
theorem sl_wipe (s : Sl K H0 B ρ σ H) : ∀ vs : List Nat, Sl K H0 B (wipeR ρ vs) (wipe σ vs) H
  | [] => s
  | v :: vs => sl_none (sl_wipe s vs) v
theorem set_none_comm {l : List (Option V)} {i j : Nat} {x : Option V} (h : i ≠ j) : (l.set i x).set j none = (l.set j none).set i x := List.set_comm _ _ h
theorem wipe_set {σ : L2.St} {i : Nat} {x : Option V} : ∀ {vs : List Nat}, i ∈ vs → wipe (σ.set i x) vs = wipe σ vs
  | v :: vs, h => by
    unfold wipe
    by_cases e : i ∈ vs
    · rw [wipe_set e]
    · have e2 : i = v := by
        cases List.mem_cons.mp h with | inl z => exact z | inr z => exact absurd z e
      subst e2
      have q : ∀ {us : List Nat}, i ∉ us → wipe (σ.set i x) us = (wipe σ us).set i x := by
        intro us
        induction us with
        | nil => intro _; rfl
        | cons u us ih =>
          intro hu
          unfold wipe
          rw [ih (fun z => hu (List.mem_cons_of_mem _ z)), set_none_comm (fun z => hu (by rw [z]; exact List.mem_cons_self))]
      rw [q e, List.set_set]

/-! ### targets -/
def GD (K : PySem.W.Frag) (g : TG) (bd : PyData → Rho → Option Rho) (is : List Nat) : Prop := ∀ (H0 B H : Hp) (ρ ρ' : Rho) (σ : L2.St) (v : V) (x : PyData) (Q : L2.St → Hp → Prop), Sl K H0 B ρ σ H → Dp K B v x → bd x ρ = some ρ' →
  (∀ σ', (∀ vs : List Nat, (∀ i ∈ is, i ∈ vs) → wipe σ' vs = wipe σ vs) → Sl K H0 B ρ' σ' H → Q σ' H) → g v σ H Q
def b1 (i : Nat) : PyData → Rho → Option Rho := fun x ρ => some (ρ.set i (some (.d x)))
theorem gd_1 {i : Nat} : GD K (gName i) (b1 i) [i] := fun H0 B H ρ ρ' σ v x Q s h hb q => by
  cases hb
  exact q _ (fun vs hv => wipe_set (hv i (by simp))) (sl_setD s h)
def b2 (i j : Nat) : PyData → Rho → Option Rho
  | .tuple [x, y], ρ => some ((ρ.set i (some (.d x))).set j (some (.d y)))
  | _, _ => none
theorem gd_2 {i j : Nat} : GD K (gTup K 2 (gCons (gName i) (gCons (gName j) gNil))) (b2 i j) [i, j] := fun H0 B H ρ ρ' σ v x Q s h hb q => by
  unfold b2 at hb
  split at hb
  · cases hb
    cases h with
    | tup h a =>
      cases a with
      | cons a1 a =>
        cases a with
        | cons a2 a =>
          cases a
          refine ⟨_, _, rfl, sqT_mono s.bh h, rfl, _, _, rfl, _, _, rfl, rfl, q _ (fun vs hv => ?_) (sl_setD (sl_setD s a1) a2)⟩
          rw [wipe_set (hv j (by simp)), wipe_set (hv i (by simp))]
  · cases hb
def b3 (i j k : Nat) : PyData → Rho → Option Rho
  | .tuple [x, y, z], ρ => some (((ρ.set i (some (.d x))).set j (some (.d y))).set k (some (.d z)))
  | _, _ => none
theorem gd_3 {i j k : Nat} : GD K (gTup K 3 (gCons (gName i) (gCons (gName j) (gCons (gName k) gNil)))) (b3 i j k) [i, j, k] := fun H0 B H ρ ρ' σ v x Q s h hb q => by
  unfold b3 at hb
  split at hb
  · cases hb
    cases h with
    | tup h a =>
      cases a with
      | cons a1 a =>
        cases a with
        | cons a2 a =>
          cases a with
          | cons a3 a =>
            cases a
            refine ⟨_, _, rfl, sqT_mono s.bh h, rfl, _, _, rfl, _, _, rfl, _, _, rfl, rfl, q _ (fun vs hv => ?_) (sl_setD (sl_setD (sl_setD s a1) a2) a3)⟩
            rw [wipe_set (hv k (by simp)), wipe_set (hv j (by simp)), wipe_set (hv i (by simp))]
  · cases hb

/-! ### comprehensions -/
def lcGo (bd : PyData → Rho → Option Rho) (t : Rho → Option Bool) (f : Rho → Option PyData) (ρ : Rho) : List PyData → Option (List PyData)
  | [] => some []
  | x :: xs => (bd x ρ).bind fun ρ1 => (t ρ1).bind fun b => if b then (f ρ1).bind fun y => (lcGo bd t f ρ xs).bind fun r => some (y :: r) else lcGo bd t f ρ xs
def fLc (fi : Rho → Option (List PyData)) (bd : PyData → Rho → Option Rho) (t : Rho → Option Bool) (f : Rho → Option PyData) (vs : List Nat) : Rho → Option PyData := fun ρ => (fi ρ).bind fun xs => if xs.length ≤ bigL then (lcGo bd t f (wipeR ρ vs) xs).map .list else none
theorem lcGo_len {bd : PyData → Rho → Option Rho} {t : Rho → Option Bool} {f : Rho → Option PyData} {ρ : Rho} : ∀ {xs ys : List PyData}, lcGo bd t f ρ xs = some ys → ys.length ≤ xs.length
  | [], ys, h => by cases h; exact Nat.le_refl _
  | x :: xs, ys, h => by
    unfold lcGo at h
    obtain ⟨ρ1, h1, h⟩ := bind_some h
    obtain ⟨b, h2, h⟩ := bind_some h
    cases b with
    | true =>
      obtain ⟨y, h3, h⟩ := bind_some h
      obtain ⟨r, h4, h⟩ := bind_some h
      cases h
      exact Nat.succ_le_succ (lcGo_len h4)
    | false => exact Nat.le_succ_of_le (lcGo_len h)
def tYesD : Rho → Option Bool := fun _ => some true
abbrev PDTs (X : Cx) (ifs : List Expr) (f : Rho → Option Bool) : Prop := PTs X ifs (tDT X.K f)
theorem pts_imp {X : Cx} {e : List Expr} {t t' : TT} (h : PTs X e t) (i : ∀ σ H Q, t' σ H Q → t σ H Q) : PTs X e t' := ⟨fun pins s σ H Q I q => h.run pins s σ H Q I (i σ H Q q)⟩
theorem pdts_nil {X : Cx} : PDTs X [] tYesD := pts_imp pts_nil fun σ H Q ⟨H0, B, ρ, d, s, hf, q⟩ => by cases hf; exact q B H (Tr.refl s.bh)
theorem pdts_one {X : Cx} {c : Expr} {f : Rho → Option Bool} (h : PDT X c f) : PDTs X [c] f := pts_one h
theorem Tr.put {B H B' H' : Hp} {D : Addr} {o : HO} (t : Tr B H B' H') (hb : B' D = none) (h : H D = none) : Tr B H B' (upd H' D o) := ⟨t.b, fun a u e => by rw [upd_ne (ne_of_none e hb)]; exact t.t a u e, fun a u e => by rw [upd_ne (ne_of_none e h)]; exact t.h a u e, t.f⟩
theorem Tr.stay {B H B' H' : Hp} {D : Addr} {o : HO} (t : Tr B H B' H') (hb : B D = none) (h : H D = some o) : B' D = none := by
  cases e : B' D with
  | none => rfl
  | some u => rw [t.f D u e hb] at h; cases h
theorem set_none_none {l : List (Option V)} {i j : Nat} : (l.set i none).set j none = (l.set j none).set i none := by
  by_cases e : i = j
  · rw [e]
  · exact List.set_comm _ _ e
theorem wipe_none {σ : L2.St} {i : Nat} : ∀ vs : List Nat, wipe (σ.set i none) vs = (wipe σ vs).set i none
  | [] => rfl
  | v :: vs => by unfold wipe; rw [wipe_none vs, set_none_none]
theorem wipe_idem {σ : L2.St} : ∀ vs : List Nat, wipe (wipe σ vs) vs = wipe σ vs
  | [] => rfl
  | v :: vs => by
    show (wipe ((wipe σ vs).set v none) vs).set v none = (wipe σ vs).set v none
    rw [wipe_none, wipe_idem vs, List.set_set]
theorem lc_imp {fi : Rho → Option (List PyData)} {g : TG} {bd : PyData → Rho → Option Rho} {is : List Nat} {t : Rho → Option Bool} {f : Rho → Option PyData} {vs : List Nat} (hg : GD K g bd is) (hv : ∀ i ∈ is, i ∈ vs) :
    ∀ σ H Q, tD K (fLc fi bd t f vs) σ H Q → tLc (tDI K fi) g (tDT K t) (tD K f) vs σ H Q := fun σ H Q ⟨H0, B, ρ, d, s, hf, q⟩ => by
  obtain ⟨xs, hxs, hf⟩ := bind_some hf
  split at hf
  case isFalse => cases hf
  rename_i hlen
  obtain ⟨ys, hys, rfl⟩ := Option.map_eq_some_iff.mp hf
  refine ⟨H0, B, ρ, xs, s, hxs, fun J B1 H1 t1 it D hD => ?_⟩
  have s1 := s.tr t1
  have hBD1 : B1 D = none := t1.t.free hD
  refine ⟨fun i m H' => ∃ B2 acc accD rest, Tr B1 H1 B2 H' ∧ m = xs.length - i ∧ i ≤ xs.length ∧ B2 D = none ∧ H' D = some (.lst acc) ∧ DpAll K B2 acc accD ∧ lcGo bd t f (wipeR ρ vs) (xs.drop i) = some rest ∧ accD ++ rest = ys ∧ accD.length ≤ i,
    ⟨xs.length, B1, [], [], ys, Tr.junk t1.t hD, rfl, Nat.zero_le _, hBD1, upd_same, .nil, hys, rfl, Nat.le_refl _⟩, ?_⟩
  rintro i m H' ⟨B2, acc, accD, rest, t2, rfl, hi, hB, hDl, hacc, hgo, hr, hl⟩
  by_cases hlt : i < xs.length
  · have hx : xs[i]? = some xs[i] := by simp [hlt]
    obtain ⟨go, yld⟩ := it.2 i xs[i] hx H' (t2.b.trans t2.t)
    rw [List.drop_eq_getElem_cons hlt] at hgo
    unfold lcGo at hgo
    obtain ⟨ρ1, h1, hgo⟩ := bind_some hgo
    obtain ⟨b, h2, hgo⟩ := bind_some hgo
    refine .inr ⟨go, _, fun H'' nx => ⟨xs.length - (i + 1), by omega, nx⟩, fun x H3 y => ?_⟩
    obtain ⟨B3, t3, d3⟩ := yld x H3 y B2 t2.b t2.t
    refine hg H0 B3 H3 (wipeR ρ vs) ρ1 (wipe σ vs) x xs[i] _ (sl_wipe ((s1.tr t2).tr t3) vs) d3 h1 fun σ' hw s3 => ⟨by rw [hw vs hv, wipe_idem], ?_⟩
    refine ⟨H0, B3, ρ1, b, s3, h2, fun B4 H4 t4 => ?_⟩
    have t24 := (t2.trans t3).trans t4
    have hD4 := (t3.trans t4).h _ _ hDl
    have hB4 := (t3.trans t4).stay hB hDl
    cases b with
    | true =>
      obtain ⟨z, h3, hgo⟩ := bind_some hgo
      obtain ⟨rs, h4, hgo⟩ := bind_some hgo
      cases hgo
      refine ⟨H0, B4, ρ1, z, s3.tr t4, h3, fun v B5 H5 t5 d5 => ?_⟩
      have hD5 := t5.h _ _ hD4
      have hB5 := t5.stay hB4 hD4
      refine ⟨acc, hD5, ?_, B5, acc ++ [v], accD ++ [z], rs, (t24.trans t5).put hB5 hD, rfl, hlt, hB5, upd_same, dpAll_append (dpAll_mono ((t3.trans t4).trans t5).b hacc) (.cons d5 .nil), h4, by rw [← hr]; simp, by simp; omega⟩
      have := dpAll_len hacc
      have h6 : (bigL : Nat) < sizeLine := by decide
      omega
    | false =>
      exact ⟨B4, acc, accD, rest, t24, rfl, hlt, hB4, hD4, dpAll_mono (t3.trans t4).b hacc, hgo, hr, by omega⟩
  · have e : xs.length = i := by omega
    subst e
    rw [List.drop_length] at hgo
    cases hgo
    rw [List.append_nil] at hr
    subst hr
    refine .inl ⟨it.1 H' (t2.b.trans t2.t), q _ (upd B2 D (.lst acc)) H' ?_ (.lst (SqL.of upd_same) (dpAll_mono (same_upd hB) hacc))⟩
    have T := t1.trans t2
    refine ⟨T.b.trans (same_upd hB), fun a u e => ?_, T.h, fun a u e1 e2 => ?_⟩
    · by_cases z : a = D
      · subst z; rw [upd_same] at e; cases e; exact hDl
      · rw [upd_ne z] at e; exact T.t a u e
    · by_cases z : a = D
      · subst z; exact t1.h.free hD
      · rw [upd_ne z] at e1; exact T.f a u e1 e2
end
section
variable {X : Cx} {elt tg iter : Expr} {ifs : List Expr} {scope : Scope} {own : List (Str × Nat)} {pos : Pos} {fi : Rho → Option (List PyData)} {g : TG} {bd : PyData → Rho → Option Rho} {is : List Nat} {t : Rho → Option Bool} {f : Rho → Option PyData}
theorem pd_lc {vs : List Nat} (hgd : GD X.K g bd is) (hv : ∀ i ∈ is, i ∈ vs) (hc : X.calm = true) (hN : X.N.Nodup) (hi : PDI X tg iter fi) (ok : BlkOk X.N X.env.scope scope own)
    (hg : ∀ (s : Shared) (H : Hp) (C : Addr) (cl : List (Str × Addr)) (fp : List Addr), PG (X.blk s H scope (compEnvC scope cl C X.env) fp) tg g) (ht : ∀ (s : Shared) (H : Hp) (C : Addr) (cl : List (Str × Addr)) (fp : List Addr), PDTs (X.blk s H scope (compEnvC scope cl C X.env) fp) ifs t)
    (he : ∀ (s : Shared) (H : Hp) (C : Addr) (cl : List (Str × Addr)) (fp : List Addr), PD (X.blk s H scope (compEnvC scope cl C X.env) fp) elt f) (hw : own.map (·.2) = vs := by rfl) (hs : ∀ x, foldedSetIterable iter X.env x = pure x := by intro _; rfl) :
    PD X (.ListComp elt [⟨tg, iter, ifs, 0⟩] scope pos) (fLc fi bd t f vs) := by
  subst hw
  exact pe_imp (pe_lc hc hN hi ok hg ht he hs) (lc_imp hgd hv)
end

/-! ### statements -/
inductive Out | nx (ρ : Rho) | rt (d : PyData) (ρ : Rho) | bk (ρ : Rho) | ct (ρ : Rho)
section
variable {K : PySem.W.Frag}
/-- B0, H0: at the entry -/
def Stt (K : PySem.W.Frag) (B0 H0 : Hp) (ρ : Rho) (σ : L2.St) (H : Hp) : Prop := ∃ B, Tr B0 H0 B H ∧ Sl K H0 B ρ σ H
def Post (K : PySem.W.Frag) (B0 H0 : Hp) (D : Ends) : Out → Prop
  | .nx ρ => ∀ σ H, Stt K B0 H0 ρ σ H → D.nx σ H
  | .bk ρ => ∀ σ H, Stt K B0 H0 ρ σ H → D.bk σ H
  | .ct ρ => ∀ σ H, Stt K B0 H0 ρ σ H → D.ct σ H
  | .rt d ρ => ∀ v σ B H, Tr B0 H0 B H → Sl K H0 B ρ σ H → Dp K B v d → D.rt v H
def tS (K : PySem.W.Frag) (g : Rho → Option Out) : TS := fun D σ H => ∃ B0 H0 ρ o, Stt K B0 H0 ρ σ H ∧ g ρ = some o ∧ Post K B0 H0 D o
abbrev PSD (X : Cx) (st : Stmt) (g : Rho → Option Out) : Prop := PS X st (tS X.K g)
abbrev PSDs (X : Cx) (st : List Stmt) (g : Rho → Option Out) : Prop := PSs X st (tS X.K g)
def gNx : Rho → Option Out := fun ρ => some (.nx ρ)
def gSeq (g h : Rho → Option Out) : Rho → Option Out := fun ρ => (g ρ).bind fun o => match o with
  | .nx ρ' => h ρ'
  | o => some o
variable {X : Cx} {st : Stmt} {rest : List Stmt} {g h : Rho → Option Out} {e a b : Expr} {pos : Pos} {f : Rho → Option PyData} {ft : Rho → Option Bool}
theorem psd_nil : PSDs X [] gNx := pss_imp pss_nil fun D σ H ⟨B0, H0, ρ, o, s, hf, q⟩ => by cases hf; exact q σ H s
theorem psd_cons (h1 : PSD X st g) (h2 : PSDs X rest h) : PSDs X (st :: rest) (gSeq g h) := pss_imp (pss_cons h1 h2) fun D σ H ⟨B0, H0, ρ, o, s, hf, q⟩ => by
  obtain ⟨o1, ho, hf⟩ := bind_some hf
  refine ⟨B0, H0, ρ, o1, s, ho, ?_⟩
  cases o1 with
  | nx ρ' => exact fun σ' H' s' => ⟨B0, H0, ρ', o, s', hf, q⟩
  | rt d ρ' => cases hf; exact q
  | bk d => cases hf; exact q
  | ct d => cases hf; exact q
theorem psd_one (h1 : PSD X st g) : PSDs X [st] g := pss_one h1
def gRet (f : Rho → Option PyData) : Rho → Option Out := fun ρ => (f ρ).map fun d => .rt d ρ
theorem psd_ret (he : PD X e f) : PSD X (.Return (some e) pos) (gRet f) := ps_imp (ps_ret he) fun D σ H ⟨B0, H0, ρ, o, ⟨B, t, s⟩, hf, q⟩ => by
  obtain ⟨d, hd, rfl⟩ := Option.map_eq_some_iff.mp hf
  exact ⟨H0, B, ρ, d, s, hd, fun v B1 H1 t1 d1 => q v σ B1 H1 (t.trans t1) (s.tr t1) d1⟩
/-- the slot's own list becomes data -/
def frz (i : Nat) (ρ : Rho) : Rho := match ρ[i]? with
  | some (some (.own _ xs)) => ρ.set i (some (.d (.list xs)))
  | _ => ρ
theorem set_self_get {l : L2.St} {i : Nat} {x : Option V} (h : l[i]? = some x) : l.set i x = l := by
  apply List.ext_getElem?
  intro j
  by_cases e : i = j
  · subst e
    rw [List.getElem?_set_self (List.getElem?_eq_some_iff.mp h).1, h]
  · rw [List.getElem?_set_ne e]
theorem stt_frz {B0 H0 : Hp} {ρ : Rho} {σ : L2.St} {H : Hp} (s : Stt K B0 H0 ρ σ H) (i : Nat) : Stt K B0 H0 (frz i ρ) σ H := by
  unfold frz
  split
  · rename_i o xs hx
    obtain ⟨B, t, s⟩ := s
    obtain ⟨p, vs, h1, h2, h3, h4, h5, h6⟩ := s.ow hx
    have t2 : Tr B0 H0 (upd B p (.lst vs)) H := ⟨t.b.trans (same_upd h2), fun c u e => by
      by_cases z : c = p
      · subst z; rw [upd_same] at e; cases e; exact h4
      · rw [upd_ne z] at e; exact t.t c u e, t.h, fun c u e1 e2 => by
      by_cases z : c = p
      · subst z; exact h3
      · rw [upd_ne z] at e1; exact t.f c u e1 e2⟩
    refine ⟨_, t2, ?_⟩
    -- all other lists stay apart
    have sw : Sl K H0 B (ρ.set i none) σ H := by
      refine ⟨s.bh, by simp [s.len], fun {j y} e => ?_, fun {j oj ys} e => ?_, fun {j k oj ok us ys c} e1 e2 e3 e4 => ?_⟩
      · rcases get_set e with ⟨_, _, z⟩ | ⟨_, e⟩
        · cases z
        · exact s.dv e
      · rcases get_set e with ⟨_, _, z⟩ | ⟨_, e⟩
        · cases z
        · exact s.ow e
      · rcases get_set e1 with ⟨_, _, z⟩ | ⟨_, e1⟩
        · cases z
        · rcases get_set e2 with ⟨_, _, z⟩ | ⟨_, e2⟩
          · cases z
          · exact s.ap e1 e2 e3 e4
    have s2 : Sl K H0 (upd B p (.lst vs)) (ρ.set i none) σ H := by
      refine ⟨t2.t, sw.len, fun {j y} e => ?_, fun {j oj ys} e => ?_, fun a b c d => sw.ap a b c d⟩
      · obtain ⟨v, e1, e2⟩ := sw.dv e
        exact ⟨v, e1, dp_mono (same_upd h2) e2⟩
      · obtain ⟨c, ws, e1, e2, e3, e4, e5, e6⟩ := sw.ow e
        refine ⟨c, ws, e1, ?_, e3, e4, dpAll_mono (same_upd h2) e5, e6⟩
        have hne : c ≠ p := fun z => by
          subst z
          rcases get_set e with ⟨_, _, z⟩ | ⟨n, e⟩
          · cases z
          · exact n (s.ap hx e h1 e1)
        rw [upd_ne hne]
        exact e2
    have s3 := sl_setD (i := i) (v := V.ref p) (x := PyData.list xs) s2 (.lst (SqL.of upd_same) (dpAll_mono (same_upd h2) h5))
    rw [List.set_set, set_self_get h1] at s3
    exact s3
  · exact s
theorem psd_frz (i : Nat) (h : PSD X st g) : PSD X st (fun ρ => g (frz i ρ)) := ps_imp h fun D σ H ⟨B0, H0, ρ, o, s, hf, q⟩ => ⟨B0, H0, frz i ρ, o, stt_frz s i, hf, q⟩
theorem psds_frz (i : Nat) (h : PSDs X rest g) : PSDs X rest (fun ρ => g (frz i ρ)) := pss_imp h fun D σ H ⟨B0, H0, ρ, o, s, hf, q⟩ => ⟨B0, H0, frz i ρ, o, stt_frz s i, hf, q⟩
def gSet (i : Nat) (f : Rho → Option PyData) : Rho → Option Out := fun ρ => (f ρ).map fun x => .nx (ρ.set i (some (.d x)))
theorem psd_asg {i : Nat} (h : PS X st (tAsg (tD X.K f) (gName i))) : PSD X st (gSet i f) := ps_imp h fun D σ H ⟨B0, H0, ρ, o, ⟨B, t, s⟩, hf, q⟩ => by
  obtain ⟨d, hd, rfl⟩ := Option.map_eq_some_iff.mp hf
  exact ⟨H0, B, ρ, d, s, hd, fun v B1 H1 t1 d1 => q _ _ ⟨B1, t.trans t1, sl_setD (s.tr t1) d1⟩⟩
/-- x = [..]: x alone knows it -/
def gOwn (i : Nat) (fs : Rho → Option (List PyData)) : Rho → Option Out := fun ρ => (fs ρ).bind fun xs => if xs.length ≤ bigL then some (.nx (ρ.set i (some (.own none xs)))) else none
theorem psd_own {i : Nat} {fs : Rho → Option (List PyData)} (h : PS X st (tAsg (tLst (tDA X.K fs)) (gName i))) : PSD X st (gOwn i fs) := ps_imp h fun D σ H ⟨B0, H0, ρ, o, ⟨B, t, s⟩, hf, q⟩ => by
  obtain ⟨xs, hd, hf⟩ := bind_some hf
  obtain ⟨hl, rfl⟩ := ite_some hf
  refine ⟨H0, B, ρ, xs, s, hd, fun vs B1 H1 t1 d1 => ⟨by rw [dpAll_len d1]; exact bigL_le hl, fun p hp => ?_⟩⟩
  have T := t.trans t1
  have s1 := s.tr t1
  refine q _ _ ⟨B1, T.trans (Tr.junk T.t hp), sl_setO (s1.tr (Tr.junk T.t hp)) (T.t.free hp) (T.h.free hp) upd_same d1 (fun b e => nomatch e) fun {j oj ys} n e z => ?_⟩
  obtain ⟨c, ws, e1, _, _, e4, _⟩ := s1.ow e
  rw [z] at e1
  cases e1
  rw [hp] at e4
  cases e4
def gDrop (f : Rho → Option PyData) : Rho → Option Out := fun ρ => (f ρ).map fun _ => .nx ρ
theorem psd_drop (h : PS X st (tDrop (tD X.K f))) : PSD X st (gDrop f) := ps_imp h fun D σ H ⟨B0, H0, ρ, o, ⟨B, t, s⟩, hf, q⟩ => by
  obtain ⟨d, hd, rfl⟩ := Option.map_eq_some_iff.mp hf
  exact ⟨H0, B, ρ, d, s, hd, fun v B1 H1 t1 d1 => q _ _ ⟨B1, t.trans t1, s.tr t1⟩⟩
def gIf (c : Rho → Option Bool) (g h : Rho → Option Out) : Rho → Option Out := fun ρ => (c ρ).bind fun z => if z then g ρ else h ρ
theorem psd_if {c : Expr} {p q : List Stmt} (hc : PDT X c ft) (hp : PSDs X p g) (hq : PSDs X q h) : PSD X (.If c p q pos) (gIf ft g h) := ps_imp (ps_if hc hp hq) fun D σ H ⟨B0, H0, ρ, o, ⟨B, t, s⟩, hf, k⟩ => by
  obtain ⟨z, hz, hf⟩ := bind_some hf
  refine ⟨H0, B, ρ, z, s, hz, fun B1 H1 t1 => ?_⟩
  cases z with
  | true => exact ⟨B0, H0, ρ, o, ⟨B1, t.trans t1, s.tr t1⟩, hf, k⟩
  | false => exact ⟨B0, H0, ρ, o, ⟨B1, t.trans t1, s.tr t1⟩, hf, k⟩
/-- x.append(e), x knows its list alone -/
def gApp (i : Nat) (f : Rho → Option PyData) : Rho → Option Out := fun ρ => match ρ[i]? with
  | some (some (.own o xs)) => (f ρ).bind fun y => if xs.length < bigL then some (.nx (ρ.set i (some (.own o (xs ++ [y]))))) else none
  | _ => none
theorem sl_grow {H0 B H : Hp} {ρ : Rho} {σ : L2.St} (s : Sl K H0 B ρ σ H) {i : Nat} {a : Addr} {xs ys : List PyData} {ws : List V} {o : Option Addr} (hx : ρ[i]? = some (some (.own o xs))) (h1 : σ[i]? = some (some (V.ref a))) (hb : B a = none) (h0 : H0 a = none) (hd : DpAll K B ws ys) (ho : ∀ b, o = some b → a = b) :
    Sl K H0 B (ρ.set i (some (.own o ys))) σ (upd H a (.lst ws)) := by
  have hi := (List.getElem?_eq_some_iff.mp h1).1
  refine ⟨fun c u e => ?_, by simp [s.len], fun {j y} e => ?_, fun {j oj us} e => ?_, fun {j k oj ok us vs c} e1 e2 e3 e4 => ?_⟩
  · rw [upd_ne (ne_of_none e hb)]; exact s.bh c u e
  · rcases get_set e with ⟨_, _, z⟩ | ⟨_, e⟩
    · cases z
    · exact s.dv e
  · rcases get_set e with ⟨rfl, _, z⟩ | ⟨n, e⟩
    · cases z; exact ⟨a, ws, h1, hb, h0, upd_same, hd, ho⟩
    · obtain ⟨c, vs, e1, e2, e3, e4, e5⟩ := s.ow e
      refine ⟨c, vs, e1, e2, e3, ?_, e5⟩
      rw [upd_ne]
      · exact e4
      · intro z; subst z; exact n (s.ap hx e h1 e1)
  · have f1 : ∃ o' us', ρ[j]? = some (some (.own o' us')) := by
      rcases get_set e1 with ⟨rfl, _, _⟩ | ⟨_, e⟩
      · exact ⟨_, _, hx⟩
      · exact ⟨_, _, e⟩
    have f2 : ∃ o' us', ρ[k]? = some (some (.own o' us')) := by
      rcases get_set e2 with ⟨rfl, _, _⟩ | ⟨_, e⟩
      · exact ⟨_, _, hx⟩
      · exact ⟨_, _, e⟩
    obtain ⟨_, _, f1⟩ := f1
    obtain ⟨_, _, f2⟩ := f2
    exact s.ap f1 f2 e3 e4
theorem psd_app {i : Nat} (h : PS X st (tDrop (tBM X.K "list" rAppend (tVar i) (tCons (tD X.K f) tNil)))) : PSD X st (gApp i f) := ps_imp h fun D σ H ⟨B0, H0, ρ, o, ⟨B, t, s⟩, hf, q⟩ => by
  unfold gApp at hf
  split at hf
  · rename_i o xs hx
    obtain ⟨y, hy, hf⟩ := bind_some hf
    obtain ⟨hl, rfl⟩ := ite_some hf
    obtain ⟨a, vs, h1, h2, h3, h4, h5, h6⟩ := s.ow hx
    refine ⟨.ref a, h1, .inl ⟨rfl, vs, SqL.of h4⟩, H0, B, ρ, y, s, hy, fun v B1 H1 t1 d1 => ?_⟩
    have s1 := s.tr t1
    have hb := t1.stay h2 h4
    refine ⟨a, vs, v, rfl, rfl, t1.h _ _ h4, by rw [dpAll_len h5]; exact Nat.lt_of_lt_of_le hl (by decide), ?_⟩
    refine q _ _ ⟨B1, (t.trans t1).put hb h3, sl_grow s1 hx h1 hb h3 (dpAll_append (dpAll_mono t1.b h5) (.cons d1 .nil)) h6⟩
  · cases hf
end
end Dn

namespace Dn
open PySem L2 PySem.Spec PyProof.Rows
theorem Tr.glue {B0 H0 B1 H1 B H : Hp} (p : Tr B0 H0 B1 H1) (q : Tr B1 H0 B H) : Tr B0 H0 B H := ⟨p.b.trans q.b, q.t, q.h, fun a o x y => by
  cases e : B1 a with
  | none => exact q.f a o x e
  | some u => exact p.f a u e y⟩
section
variable {K : PySem.W.Frag}
/-! ### loops -/
def forGo (bd : PyData → Rho → Option Rho) (g : Rho → Option Out) : List PyData → Rho → Option Out
  | [], ρ => some (.nx ρ)
  | x :: xs, ρ => (bd x ρ).bind fun ρ1 => (g ρ1).bind fun o => match o with
    | .nx ρ2 => forGo bd g xs ρ2
    | .ct ρ2 => forGo bd g xs ρ2
    | .bk ρ2 => some (.nx ρ2)
    | .rt d ρ2 => some (.rt d ρ2)
def gFor (fi : Rho → Option (List PyData)) (bd : PyData → Rho → Option Rho) (g : Rho → Option Out) : Rho → Option Out := fun ρ => (fi ρ).bind fun xs => forGo bd g xs ρ
def whileGo (c : Rho → Option Bool) (g : Rho → Option Out) : Nat → Rho → Option Out
  | 0, _ => none
  | n + 1, ρ => (c ρ).bind fun b => if b then (g ρ).bind fun o => match o with
    | .nx ρ2 => whileGo c g n ρ2
    | .ct ρ2 => whileGo c g n ρ2
    | .bk ρ2 => some (.nx ρ2)
    | .rt d ρ2 => some (.rt d ρ2) else some (.nx ρ)
variable {X : Cx} {st : Stmt} {rest body : List Stmt} {g h : Rho → Option Out} {e a b tg iter : Expr} {pos : Pos} {f : Rho → Option PyData} {ft : Rho → Option Bool} {fi : Rho → Option (List PyData)} {bd : PyData → Rho → Option Rho} {is : List Nat} {tgt : TG}
theorem psd_for (hgd : GD X.K tgt bd is) (hp : PassesOwn (model X.prog X.w) X.A X.env X.xe) (hc : X.calm = true) (hi : PDI X tg iter fi) (hg : PG X tg tgt) (hb : PSDs X body g)
    (hs : ∀ x, foldedSetIterable iter X.env x = pure x := by intro _; rfl) : PSD X (.For tg iter body [] pos) (gFor fi bd g) := ps_imp (ps_for hp hc hi hg hb hs) fun D σ H ⟨B0, H0, ρ, o, ⟨B, t, s⟩, hf, q⟩ => by
  obtain ⟨xs, hxs, hf⟩ := bind_some hf
  refine ⟨H0, B, ρ, xs, s, hxs, fun J B1 H1 t1 it => ?_⟩
  have T := t.trans t1
  have T0 : Tr B1 H0 B1 H1 := ⟨Same.refl _, T.t, T.h, fun c u e1 e2 => by rw [e2] at e1; cases e1⟩
  refine ⟨fun i m σ' H' => ∃ ρ', Stt X.K B1 H0 ρ' σ' H' ∧ m = xs.length - i ∧ i ≤ xs.length ∧ forGo bd g (xs.drop i) ρ' = some o, ⟨xs.length, ρ, ⟨B1, T0, s.tr t1⟩, rfl, Nat.zero_le _, hf⟩, ?_⟩
  rintro i m σ' H' ⟨ρ', ⟨B2, t2, s2⟩, rfl, hle, hgo⟩
  by_cases hlt : i < xs.length
  · have hx : xs[i]? = some xs[i] := by simp [hlt]
    obtain ⟨go, yld⟩ := it.2 i xs[i] hx H' (t2.b.trans t2.t)
    rw [List.drop_eq_getElem_cons hlt] at hgo
    unfold forGo at hgo
    obtain ⟨ρ1, h1, hgo⟩ := bind_some hgo
    obtain ⟨o1, h2, hgo⟩ := bind_some hgo
    refine .inr ⟨go, _, fun σ'' H'' nx => ⟨xs.length - (i + 1), by omega, nx⟩, fun x H3 y => ?_⟩
    obtain ⟨B3, t3, d3⟩ := yld x H3 y B2 t2.b t2.t
    refine hgd H0 B3 H3 ρ' ρ1 σ' x xs[i] _ (s2.tr t3) d3 h1 fun σ3 _ s3 => ⟨B1, H0, ρ1, o1, ⟨B3, t2.trans t3, s3⟩, h2, ?_⟩
    cases o1 with
    | nx ρ2 => exact fun σ4 H4 s4 => ⟨ρ2, s4, rfl, hlt, hgo⟩
    | ct ρ2 => exact fun σ4 H4 s4 => ⟨ρ2, s4, rfl, hlt, hgo⟩
    | bk ρ2 => cases hgo; exact fun σ4 H4 ⟨B4, t4, s4⟩ => q _ _ ⟨B4, T.glue t4, s4⟩
    | rt d ρ2 => cases hgo; exact fun v σ4 B4 H4 t4 s4 d4 => q v σ4 B4 H4 (T.glue t4) s4 d4
  · have e : xs.length = i := by omega
    subst e
    rw [List.drop_length] at hgo
    cases hgo
    exact .inl ⟨it.1 H' (t2.b.trans t2.t), q _ _ ⟨B2, T.glue t2, s2⟩⟩
theorem psd_while (n : Nat) {c : Expr} (hp : PassesOwn (model X.prog X.w) X.A X.env X.xe) (hc : PDT X c ft) (hb : PSDs X body g) : PSD X (.While c body [] pos) (whileGo ft g n) := ps_imp (ps_while hp hc hb) fun D σ H ⟨B0, H0, ρ, o, s, hf, q⟩ => by
  refine ⟨fun m σ' H' => ∃ ρ', Stt X.K B0 H0 ρ' σ' H' ∧ whileGo ft g m ρ' = some o, ⟨n, ρ, s, hf⟩, ?_⟩
  rintro m σ' H' ⟨ρ', ⟨B2, t2, s2⟩, hgo⟩
  cases m with
  | zero => cases hgo
  | succ m =>
    unfold whileGo at hgo
    obtain ⟨z, h1, hgo⟩ := bind_some hgo
    refine ⟨H0, B2, ρ', z, s2, h1, fun B3 H3 t3 => ?_⟩
    cases z with
    | true =>
      obtain ⟨o1, h2, hgo⟩ := bind_some hgo
      refine ⟨_, fun σ'' H'' nx => ⟨m, Nat.lt_succ_self m, nx⟩, B0, H0, ρ', o1, ⟨B3, t2.trans t3, s2.tr t3⟩, h2, ?_⟩
      cases o1 with
      | nx ρ2 => exact fun σ4 H4 s4 => ⟨ρ2, s4, hgo⟩
      | ct ρ2 => exact fun σ4 H4 s4 => ⟨ρ2, s4, hgo⟩
      | bk ρ2 => cases hgo; exact fun σ4 H4 s4 => q _ _ s4
      | rt d ρ2 => cases hgo; exact fun v σ4 B4 H4 t4 s4 d4 => q v σ4 B4 H4 t4 s4 d4
    | false =>
      cases hgo
      exact q _ _ ⟨B3, t2.trans t3, s2.tr t3⟩
/-! ### more statements -/
def gBk : Rho → Option Out := fun ρ => some (.bk ρ)
def gCt : Rho → Option Out := fun ρ => some (.ct ρ)
theorem psd_pass : PSD X (.Pass pos) gNx := ps_imp ps_pass fun D σ H ⟨B0, H0, ρ, o, s, hf, q⟩ => by cases hf; exact q σ H s
theorem psd_break : PSD X (.Break pos) gBk := ps_imp ps_break fun D σ H ⟨B0, H0, ρ, o, s, hf, q⟩ => by cases hf; exact q σ H s
theorem psd_cont : PSD X (.Continue pos) gCt := ps_imp ps_continue fun D σ H ⟨B0, H0, ρ, o, s, hf, q⟩ => by cases hf; exact q σ H s
theorem psd_doc {x j pos'} : PSD X (.Expr (.Constant (.str x) j pos) pos') gNx := ps_imp ps_doc fun D σ H ⟨B0, H0, ρ, o, s, hf, q⟩ => by cases hf; exact q σ H s
theorem psd_never (g : Rho → Option Out) (hg : ∀ ρ, g ρ = none) : PSD X st g := ps_imp ps_never fun D σ H ⟨B0, H0, ρ, o, s, hf, q⟩ => by rw [hg] at hf; cases hf
/-- i += e, i -= e of ints -/
def gAug (i : Nat) (op : Int → Int → Int) (f : Rho → Option PyData) : Rho → Option Out := fun ρ => (fV i ρ).bind fun x => (f ρ).bind fun y => (ri op x y).map fun z => .nx (ρ.set i (some (.d z)))
theorem psd_aug {i : Nat} {op : Int → Int → Int} (h : PS X st (tAug i (tD X.K f) (ipI op))) : PSD X st (gAug i op f) := ps_imp h fun D σ H ⟨B0, H0, ρ, o, ⟨B, t, s⟩, hf, q⟩ => by
  obtain ⟨x, hx, hf⟩ := bind_some hf
  obtain ⟨y, hy, hf⟩ := bind_some hf
  obtain ⟨z, hz, rfl⟩ := Option.map_eq_some_iff.mp hf
  unfold ri at hz
  split at hz
  · cases hz
    obtain ⟨v, h1, h2⟩ := s.dv (fV_some hx)
    cases h2
    refine ⟨_, h1, H0, B, ρ, _, s, hy, fun w B1 H1 t1 d1 => ?_⟩
    cases d1
    exact ⟨_, _, rfl, rfl, q _ _ ⟨B1, t.trans t1, sl_setD (s.tr t1) (.int _)⟩⟩
  · cases hz
/-- x.extend(e) -/
def gExt (i : Nat) (f : Rho → Option PyData) : Rho → Option Out := fun ρ => match ρ[i]? with
  | some (some (.own o xs)) => (f ρ).bind fun y => match y with
    | .list ys => if xs.length + ys.length ≤ bigL then some (.nx (ρ.set i (some (.own o (xs ++ ys))))) else none
    | _ => none
  | _ => none
def rExtL (K : PySem.W.Frag) : V → List V → Hp → VK → Prop := fun x vs H Q => ∃ l b xs zs, x = .ref l ∧ vs = [.ref b] ∧ H l = some (.lst xs) ∧ H b = some (.lst zs) ∧ xs.length + zs.length ≤ sizeLine ∧ Q .non (upd H l (.lst (xs ++ zs)))
/-! ### isinstance -/
def tyN : PyData → String
  | .none => "NoneType"
  | .bool _ => "bool"
  | .int _ => "int"
  | .str _ => "str"
  | .list _ => "list"
  | .tuple _ => "tuple"
  | .dict _ => "dict"
def isiD (T : String) (x : PyData) : Option PyData := (kitB (tyN x) T).map .bool
theorem tyX_of {B H : Hp} {v : V} {d : PyData} (s : Same B H) (h : Dp K B v d) : TyX K H v (.type (tyN d)) := by
  cases h with
  | non => exact .base .non
  | bl b => exact .base (.bl b)
  | int i => exact .base (.int i)
  | str x => exact .base (.str x)
  | lst h a =>
    rcases sqL_mono s h with (h | ⟨o, h⟩) | ⟨o, its, n, h, c, _⟩
    · exact .base (.lst h)
    · exact .base (.frz h)
    · exact .kList h c
  | tup h a =>
    rcases sqT_mono s h with (h | ⟨o, h⟩) | ⟨o, its, n, h, c, _⟩
    · exact .base (.tup h)
    · exact .fTuple h
    · exact .kTuple h c
def f1 (g : PyData → Option PyData) (f : Rho → Option PyData) : Rho → Option PyData := fun ρ => (f ρ).bind g
theorem pd_isi {T : String} {e2 : Expr} {p : Pos} (hg : Gl X "isinstance") (hm : X.mg "isinstance" = none) (he : PD X e f) (h2 : PE X e2 (tC (.ty T)))
    (h0 : starEach [e2] X.env = (false, eval e2 X.env) :: starEach [] X.env := by rfl) (hs : starEach [e, e2] X.env = (false, eval e X.env) :: starEach [e2] X.env := by rfl) (hpl : (backTo pos (starEach [e2] X.env)).any (·.1) = false := by rfl)
    (hv : bootBuiltins "isinstance" = some (.builtin "isinstance") := by decide +kernel) : PD X (.Call (.Name "isinstance" p) [e, e2] [] pos) (f1 (isiD T) f) :=
  pe_imp (pe_callB call_isi hg hm hv (pa_cons he (pa_cons h2 pa_nil h0) hs) (by decide) (by decide) hs hpl) fun σ H Q ⟨H0, B, ρ, d, s, hf, q⟩ => by
  obtain ⟨x, hx, hf⟩ := bind_some hf
  obtain ⟨r, er, rfl⟩ := Option.map_eq_some_iff.mp hf
  exact ⟨H0, B, ρ, x, s, hx, fun v B1 H1 t1 d1 => ⟨v, .ty T, _, _, r, rfl, .ty T, tyX_of t1.t d1, kit_ty er, q _ B1 H1 t1 (.bl r)⟩⟩
/-! ### in -/
def flatD : PyData → Bool
  | .str _ | .int _ | .bool _ | .none => true
  | _ => false
theorem flatV_of {B : Hp} {v : V} {d : PyData} (h : Dp K B v d) (f : flatD d = true) : flatV v = true := by cases h <;> first | rfl | cases f
theorem eqV_of {B : Hp} {v w : V} {d e : PyData} (h : Dp K B v d) (f : flatD d = true) (h' : Dp K B w e) (f' : flatD e = true) : eqV v w = PyData.eqv d e := by
  cases h <;> cases h' <;> first | (simp only [eqV, PyData.eqv]; done) | cases f | cases f'
theorem inV_of {B : Hp} {v : V} {d : PyData} (h : Dp K B v d) (f : flatD d = true) {vs : List V} : ∀ {ds : List PyData}, DpAll K B vs ds → ds.all flatD = true → (inV v vs = ds.any fun z => PyData.eqv z d) ∧ vs.all flatV = true := by
  induction vs with
  | nil => intro ds h2 _; cases h2; exact ⟨rfl, rfl⟩
  | cons w vs ih =>
    intro ds h2 h3
    cases h2 with
    | cons a b =>
      rw [List.all_cons, Bool.and_eq_true] at h3
      obtain ⟨e1, e2⟩ := ih b h3.2
      refine ⟨?_, by rw [List.all_cons, flatV_of a h3.1, e2]; rfl⟩
      unfold inV at e1 ⊢
      rw [List.any_cons, List.any_cons, e1, eqV_of a h3.1 h f]
def inD : PyData → PyData → Option Bool
  | x, .tuple ys => if (flatD x && ys.all flatD) = true then some (ys.any fun z => PyData.eqv z x) else none
  | x, .list ys => if (SeqAt.shaped x && SeqAt.shaped (.list ys)) = true then some (ys.any fun z => PyData.eqv z x) else none
  | .str i, .str j => some (!(Builtin.Str.occurrences j i 0 j.length 1).isEmpty)
  | _, _ => none
def inP (x y : PyData) : Option PyData := (inD x y).map .bool
def niP (x y : PyData) : Option PyData := (inD x y).map fun b => .bool (!b)
def rInA (K : PySem.W.Frag) : R2 := fun x y H Q => rIn K false x y H Q ∨ rInD K x y H Q ∨ (∃ i j, x = .str i ∧ y = .str j ∧ Q (.bl (!(Builtin.Str.occurrences j i 0 j.length 1).isEmpty)) H)
def rNiA (K : PySem.W.Frag) : R2 := fun x y H Q => rIn K true x y H Q ∨ rNotInD K x y H Q ∨ (∃ i j, x = .str i ∧ y = .str j ∧ Q (.bl (!(!(Builtin.Str.occurrences j i 0 j.length 1).isEmpty))) H)
theorem op_inA (hu : X.A.units + 65 < cLine) : OpR X (compareOp .In) (rInA X.K) := op_in_seq.or ((op_inD hu).or op_in_str)
theorem op_niA (hu : X.A.units + 65 < cLine) : OpR X (compareOp .NotIn) (rNiA X.K) := op_notIn_seq.or ((op_notInD hu).or op_notin_str)
theorem inA_of {B H : Hp} {x y : V} {dx dy : PyData} {r : Bool} (s : Same B H) (hx : Dp K B x dx) (hy : Dp K B y dy) (h : inD dx dy = some r) :
    (∀ Q : VK, Q (.bl r) H → rInA K x y H Q) ∧ (∀ Q : VK, Q (.bl (!r)) H → rNiA K x y H Q) := by
  unfold inD at h
  split at h
  · obtain ⟨hs, rfl⟩ := ite_some h
    rw [Bool.and_eq_true] at hs
    cases hy with
    | tup hq a =>
      obtain ⟨e1, e2⟩ := inV_of hx hs.1 a hs.2
      refine ⟨fun Q q => .inl ⟨_, _, rfl, .inr (sqT_mono s hq), flatV_of hx hs.1, e2, ?_⟩, fun Q q => .inl ⟨_, _, rfl, .inr (sqT_mono s hq), flatV_of hx hs.1, e2, ?_⟩⟩
      · rw [if_neg Bool.false_ne_true, e1]; exact q
      · rw [if_pos rfl, e1]; exact q
  · obtain ⟨hs, rfl⟩ := ite_some h
    rw [Bool.and_eq_true] at hs
    exact ⟨fun Q q => .inr (.inl ⟨_, _, dp_mono s hx, dp_mono s hy, hs.1, hs.2, q⟩), fun Q q => .inr (.inl ⟨_, _, dp_mono s hx, dp_mono s hy, hs.1, hs.2, q⟩)⟩
  · cases hx; cases hy; cases h
    exact ⟨fun Q q => .inr (.inr ⟨_, _, rfl, rfl, q⟩), fun Q q => .inr (.inr ⟨_, _, rfl, rfl, q⟩)⟩
  · cases h
theorem rd_in : RD K (rInA K) inP := fun B H x y dx dy d Q s hx hy hg q => by
  unfold inP at hg
  obtain ⟨r, e, rfl⟩ := Option.map_eq_some_iff.mp hg
  exact (inA_of s hx hy e).1 Q (q _ B H (Tr.refl s) (.bl r))
theorem rd_ni : RD K (rNiA K) niP := fun B H x y dx dy d Q s hx hy hg q => by
  unfold niP at hg
  obtain ⟨r, e, rfl⟩ := Option.map_eq_some_iff.mp hg
  exact (inA_of s hx hy e).2 Q (q _ B H (Tr.refl s) (.bl _))
/-- e in x, x a slot that may still grow -/
def fOwn (i : Nat) : Rho → Option PyData := fun ρ => match ρ[i]? with
  | some (some (.d x)) => some x
  | some (some (.own _ xs)) => some (.list xs)
  | _ => none
/-- what is asked of a slot's list, whether it may still grow or not: the answer hangs on no address -/
theorem own_read {H0 B H : Hp} {ρ : Rho} {σ : L2.St} {i : Nat} {d : PyData} (s : Sl K H0 B ρ σ H) (h : fOwn i ρ = some d) : ∃ v, σ[i]? = some (some v) ∧ Dp K H v d := by
  unfold fOwn at h
  split at h
  · rename_i x e
    cases h
    obtain ⟨v, h1, h2⟩ := s.dv e
    exact ⟨v, h1, dp_mono s.bh h2⟩
  · rename_i o xs e
    cases h
    obtain ⟨p, vs, h1, h2, h3, h4, h5, _⟩ := s.ow e
    exact ⟨.ref p, h1, .lst (SqL.of h4) (dpAll_mono s.bh h5)⟩
  · cases h
/-- flat answers -/
theorem flat_dp {B H : Hp} {v : V} {d : PyData} (h : Dp K H v d) (f : flatD d = true) : Dp K B v d := by
  cases h <;> first | exact .non | exact .bl _ | exact .int _ | exact .str _ | cases f
def fO2 (g : PyData → PyData → Option PyData) (fa fb : Rho → Option PyData) : Rho → Option PyData := fun ρ => (fa ρ).bind fun x => (fb ρ).bind fun y => (g x y).bind fun z => if flatD z = true then some z else none
theorem two_own {r : R2} {g : PyData → PyData → Option PyData} {fa : Rho → Option PyData} {i : Nat} (hr : RD K r g) : ∀ σ H Q, tD K (fO2 g fa (fOwn i)) σ H Q → tOp r (tD K fa) (tVar i) σ H Q := fun σ H Q ⟨H0, B, ρ, d, s, hf, q⟩ => by
  obtain ⟨x, hx, hf⟩ := bind_some hf
  obtain ⟨y, hy, hf⟩ := bind_some hf
  obtain ⟨z, hz, hf⟩ := bind_some hf
  obtain ⟨hfl, rfl⟩ := ite_some hf
  refine ⟨H0, B, ρ, x, s, hx, fun v B1 H1 t1 d1 => ?_⟩
  obtain ⟨w, e1, e2⟩ := own_read (s.tr t1) hy
  refine ⟨w, e1, hr H1 H1 v w x y z Q (Same.refl _) (dp_mono t1.t d1) e2 hz fun u B2 H2 t2 d2 => q u B1 H2 (t1.trans ⟨Same.refl _, t1.t.trans t2.h, t2.h, fun c o e1 e2 => by rw [e2] at e1; cases e1⟩) (flat_dp d2 hfl)⟩
theorem pd_cmpO {op : CmpOp} {r : R2} {g : PyData → PyData → Option PyData} {fa : Rho → Option PyData} {i : Nat} (ho : OpR X (compareOp op) r) (hr : RD X.K r g) (ha : PD X a fa) (hb : PE X b (tVar i)) (hm : behindInMarks op b = false) : PD X (.Compare a [op] [b] pos) (fO2 g fa (fOwn i)) := pe_imp (pe_cmpR ho ha hb hm) (two_own hr)
theorem pdt_cmpO {op : CmpOp} {r : R2} {g : PyData → PyData → Option PyData} {fa : Rho → Option PyData} {i : Nat} (ho : OpR X (compareOp op) r) (hr : RD X.K r g) (ha : PD X a fa) (hb : PE X b (tVar i)) (hm : behindInMarks op b = false) : PDT X (.Compare a [op] [b] pos) (fB (fO2 g fa (fOwn i))) := pt_imp (pt_cmpR ho ha hb hm) (of_test (two_own hr))
/-! ### xs[::-1] -/
def revD : PyData → Option PyData
  | .list xs => some (.list xs.reverse)
  | _ => none
theorem pd_rev {k : Nat} {p1 p2 p3 : Pos} (he : PD X e f) : PD X (.Subscript e (.Slice none none (some (.UnaryOp .USub (.Constant (.int 1) k p1) p2)) p3) pos) (f1 revD f) := pe_imp (pe_revL he) fun σ H Q ⟨H0, B, ρ, d, s, hf, q⟩ => by
  obtain ⟨x, hx, hf⟩ := bind_some hf
  refine ⟨H0, B, ρ, x, s, hx, fun v B1 H1 t1 d1 => ?_⟩
  unfold revD at hf
  split at hf
  · cases hf
    cases d1 with
    | lst h a => exact ⟨_, _, rfl, sqL_mono t1.t h, fun p hp => newL t1.t (dpAll_rev a) (fun v B' H' t dd => q v B' H' (t1.trans t) dd) hp⟩
  · cases hf
/-! ### -n -/
def negD : PyData → Option PyData
  | .int i => some (.int (-i))
  | _ => none
theorem pd_neg (he : PD X e f) : PD X (.UnaryOp .USub e pos) (f1 negD f) := pe_imp (pe_un un_neg he) fun σ H Q ⟨H0, B, ρ, d, s, hf, q⟩ => by
  obtain ⟨x, hx, hf⟩ := bind_some hf
  refine ⟨H0, B, ρ, x, s, hx, fun v B1 H1 t1 d1 => ?_⟩
  unfold negD at hf
  split at hf
  · cases hf; cases d1; exact ⟨_, rfl, q _ B1 H1 t1 (.int _)⟩
  · cases hf

/-! ### what a def is worth -/
/-- the promise: data in, data out, nothing that stood is changed -/
def spD (K : PySem.W.Frag) (n : Nat) (F : List PyData → Option PyData) : Sp := fun vs H Q _ => ∃ B ds d, Same B H ∧ DpAll K B vs ds ∧ ds.length = n ∧ F ds = some d ∧ ∀ v B' H', Tr B H B' H' → Dp K B' v d → Q v H'
def startR (n : Nat) (ds : List PyData) : Rho := ds.map (fun d => some (.d d)) ++ List.replicate (n - ds.length) none
def retD : Option Out → Option PyData
  | some (.rt d _) => some d
  | some (.nx _) => some .none
  | _ => none
def fnD (n : Nat) (g : Rho → Option Out) : List PyData → Option PyData := fun ds => retD (g (startR n ds))
theorem sl_start {B H : Hp} {vs : List V} {ds : List PyData} {N : List Str} (s : Same B H) (h : DpAll K B vs ds) : Sl K H B (startR N.length ds) (L2.start N vs) H := by
  have hl := dpAll_len h
  refine ⟨s, by simp [startR, L2.start, hl], fun {i x} e => ?_, fun {i o xs} e => ?_, fun {i j o o' xs ys c} e _ _ _ => ?_⟩
  · unfold startR at e
    by_cases hi : i < ds.length
    · rw [List.getElem?_append_left (by simpa using hi), List.getElem?_map] at e
      obtain ⟨d, hd, e⟩ := Option.map_eq_some_iff.mp e
      cases e
      obtain ⟨v, hv, hdv⟩ := dpAll_get h hd
      refine ⟨v, ?_, hdv⟩
      unfold L2.start
      rw [List.getElem?_append_left (by simpa [hl] using hi), List.getElem?_map, hv]
      rfl
    · rw [List.getElem?_append_right (by simpa using hi), List.getElem?_replicate] at e
      split at e <;> cases e
  all_goals
    unfold startR at e
    by_cases hi : i < ds.length
    · rw [List.getElem?_append_left (by simpa using hi), List.getElem?_map] at e
      obtain ⟨d, hd, e⟩ := Option.map_eq_some_iff.mp e
      cases e
    · rw [List.getElem?_append_right (by simpa using hi), List.getElem?_replicate] at e
      split at e <;> cases e
end
section
variable {P : Program} {w : World} {K : PySem.W.Frag} {mg : Str → Option Value} {base : Heap}
/-- THE RULE for a def over data -/
theorem fn_ok {x qual : Str} {st : Stmt} {f : Addr} {fd : FuncData} {N ps : List Str} {k : Nat} {g : Rho → Option Out} (F : Fun K x qual st f fd) (S : FnScope N ps (defScope st))
    (hb : ∀ (cdv : Value) (A : Around) (outer : List Env) (s : Shared) (H : Hp) (E : XK), Room k (A.deeper (envOfC qual (defScope st) s.heap.objs.size f cdv)) → PSDs (cxOf CX0 P w K mg base N qual (defScope st) f cdv A outer s H E).nox (defBody st) g) :
    FnOk P w K mg base CX0 (k + 1) f fd ps (spD K ps.length (fnD N.length g)) := by
  refine F.ok S (fun vs H Q E ⟨B, ds, d, h1, h2, h3, _⟩ => by rw [dpAll_len h2, h3]) (fun cdv A outer s H vs Q E hr ⟨B, ds, d, h1, h2, h3, h4, q⟩ => ?_)
  refine ⟨_, hb cdv A outer s H E hr, B, H, startR N.length ds, ?_⟩
  unfold fnD retD at h4
  split at h4
  · rename_i o ρ' e
    cases h4
    exact ⟨_, ⟨B, Tr.refl h1, sl_start h1 h2⟩, e, fun v σ' B' H' t _ dd => q v B' H' t dd⟩
  · rename_i o ρ e
    cases h4
    exact ⟨_, ⟨B, Tr.refl h1, sl_start h1 h2⟩, e, fun σ' H' ⟨B', t, _⟩ => q .non B' H' t .non⟩
  · cases h4
theorem no_fn {n k : Nat} {f : Addr} {fd : FuncData} {ps : List Str} : FnOk P w K mg base CX0 k f fd ps (spD K n fun _ => none) := by
  have no : ∀ vs H Q E, ¬ spD K n (fun _ => none) vs H Q E := fun vs H Q E ⟨B, ds, d, h1, h2, h3, h4, _⟩ => nomatch h4
  exact ⟨fun vs H Q E h => absurd h (no vs H Q E), fun A outer s H args us vs Q E _ _ _ _ h => absurd h (no vs H Q E)⟩
end
section
variable {X : Cx} {k n : Nat} {f : Addr} {fd : FuncData} {ps : List Str} {x : Str} {p pos : Pos} {e : Expr} {es : List Expr} {fs : Rho → Option (List PyData)} {F : List PyData → Option PyData}
def fCa (n : Nat) (F : List PyData → Option PyData) (fs : Rho → Option (List PyData)) : Rho → Option PyData := fun ρ => (fs ρ).bind fun ds => if ds.length = n then F ds else none
theorem pd_call (G : FnOk X.prog X.w X.K X.mg X.base CX0 k f fd ps (spD X.K n F)) (hr : Room k X.A) (hm : X.mg x = some (.ref f)) (hk : PySem.W.keepIn X.K (.ref f) = true) (hb : Binds X.K fd ps []) (ha : PDA X (e :: es) fs) (hg : Gl X x := by rfl) (hdb : (x == ("__debug__" : Str)) = false := by decide) (he : starEach (e :: es) X.env = (false, eval e X.env) :: starEach es X.env := by rfl) (hpl : (backTo pos (starEach es X.env)).any (·.1) = false := by rfl) : PD X (.Call (.Name x p) (e :: es) [] pos) (fCa n F fs):= pe_imp (pe_call (E := E0) G hr hg hm hk hb .nil pass0 ha hdb he hpl) fun σ H Q ⟨H0, B, ρ, d, s, hf, q⟩ => by
  obtain ⟨ds, hds, hf⟩ := bind_some hf
  split at hf
  · rename_i hl
    refine ⟨H0, B, ρ, ds, s, hds, fun vs B1 H1 t1 d1 => ?_⟩
    show spD X.K n F (vs ++ []) H1 Q E0
    rw [List.append_nil]
    exact ⟨B1, ds, d, t1.t, d1, hl, hf, fun v B' H' t dd => q v B' H' (t1.trans t) dd⟩
  · cases hf
end
end Dn

namespace Dn
open PySem L2 PySem.Spec PyProof.Rows
/-- a def that is known by what it is worth: k its level, n how many arguments -/
structure Kn (P : Program) (w : World) (K : PySem.W.Frag) (mg : Str → Option Value) (base : Heap) (k n : Nat) (x : Str) (F : List PyData → Option PyData) : Prop where
  ex : ∃ f fd ps, FnOk P w K mg base CX0 k f fd ps (spD K n F) ∧ mg x = some (.ref f) ∧ PySem.W.keepIn K (.ref f) = true ∧ L2.Binds K fd ps []
/-- a def as it stands behind the top -/
structure Df (K : PySem.W.Frag) (mg : Str → Option Value) (x : Str) (st : Stmt) (ps : List Str) : Prop where
  ex : ∃ f fd, Fun K x x st f fd ∧ mg x = some (.ref f) ∧ L2.Binds K fd ps []
section
variable {P : Program} {w : World} {K : PySem.W.Frag} {mg : Str → Option Value} {base : Heap} {x : Str} {st : Stmt}
theorem Kn.mono {j k n : Nat} {F : List PyData → Option PyData} (h : Kn P w K mg base j n x F) (l : j ≤ k) : Kn P w K mg base k n x F := by
  obtain ⟨f, fd, ps, a, b⟩ := h.ex
  exact ⟨f, fd, ps, a.mono l, b⟩
theorem Kn.none (D : Df K mg x st ps) {k n : Nat} : Kn P w K mg base k n x fun _ => .none := by
  obtain ⟨f, fd, F, m, b⟩ := D.ex
  exact ⟨f, fd, ps, no_fn, m, F.kp, b⟩
theorem kn_of {N ps : List Str} {k : Nat} {g : Rho → Option Out} (D : Df K mg x st ps) (S : FnScope N ps (defScope st))
    (hb : ∀ (f : Addr) (cdv : Value) (A : Around) (outer : List Env) (s : Shared) (H : Hp) (E : XK), Room k (A.deeper (envOfC x (defScope st) s.heap.objs.size f cdv)) → PSDs (cxOf CX0 P w K mg base N x (defScope st) f cdv A outer s H E).nox (defBody st) g) :
    Kn P w K mg base (k + 1) ps.length x (fnD N.length g) := by
  obtain ⟨f, fd, F, m, b⟩ := D.ex
  exact ⟨f, fd, ps, fn_ok F S (hb f), m, F.kp, b⟩
theorem df_mk {h : Heap} (X : K.In h) (G : h.Ns mainGlobals mg) {ps : List Str} {f : Addr} {oc : Value} {od an : Option Addr} {osl : Array (Option Value)} {kV doc pm cdv ct : Value}
    (a : PySem.W.nsIn K mainGlobals x = some (some (.ref f))) (l : K.lookup f = some ⟨oc, od, .func (PySem.W.fnOf x x (defArgs st) (defBody st) (defScope st) .none kV doc pm an cdv ct), osl⟩)
    (c : PySem.W.codeIn K cdv x = true) (k : PySem.W.keepIn K (.ref f) = true)
    (hb : ∀ (kV doc pm : Value) (an : Option Addr) (cdv ct : Value) (us : List Value), us.length = ps.length → bindArgs (PySem.W.fnOf x x (defArgs st) (defBody st) (defScope st) .none kV doc pm an cdv ct) ⟨us, []⟩ = pure (ps.zip us)) : Df K mg x st ps := by
  have F := fun_mk (st := st) l c k
  exact ⟨f, _, F, PySem.W.mg_of X G a, F.binds hb⟩
end
section
variable {X : Cx} {k n : Nat} {x : Str} {p pos : Pos} {e : Expr} {es : List Expr} {fs : Rho → Option (List PyData)} {F : List PyData → Option PyData}
theorem pd_kn (h : Kn X.prog X.w X.K X.mg X.base k n x F) (hr : Room k X.A) (ha : PDA X (e :: es) fs) (hg : Gl X x := by rfl) (hdb : (x == ("__debug__" : Str)) = false := by decide) (he : starEach (e :: es) X.env = (false, eval e X.env) :: starEach es X.env := by rfl) (hpl : (backTo pos (starEach es X.env)).any (·.1) = false := by rfl) : PD X (.Call (.Name x p) (e :: es) [] pos) (fCa n F fs):= by
  obtain ⟨f, fd, ps, a, b, c, d⟩ := h.ex
  exact pd_call a hr b c d ha hg hdb he hpl
theorem units65 {A : Around} (r : Room k A) : A.units + 65 < cLine := by have := r.un; omega
theorem psd_retN : PSD X (.Return none pos) (gRet (fC .none)) := ps_imp ps_retN fun D σ H ⟨B0, H0, ρ, o, ⟨B, t, s⟩, hf, q⟩ => by
  cases hf
  exact q .non σ B H t s .non
theorem psd_setLc {vs : List Nat} {i : Nat} {y : Str} {py : Pos} {elt tg iter : Expr} {ifs : List Expr} {scope : Scope} {own : List (Str × Nat)} {spos : Pos} {fi : Rho → Option (List PyData)} {g : TG} {bd : PyData → Rho → Option Rho} {is : List Nat} {t : Rho → Option Bool} {f : Rho → Option PyData}
    (hgd : GD X.K g bd is) (hv : ∀ i ∈ is, i ∈ vs) (hc : X.calm = true) (hN : X.N.Nodup) (hy : X.N[i]? = some y) (hyl : X.env.scope.names.lookup y = some .local)
    (hsw : swapsWith (.ListComp elt [⟨tg, iter, ifs, 0⟩] scope pos) (some (.Name y py)) spos.line X.env = pure true) (hi : PDI X tg iter fi) (ok : BlkOk X.N X.env.scope scope own)
    (hg : ∀ (s : Shared) (H : Hp) (C : Addr) (cl : List (Str × Addr)) (fp : List Addr), PG (X.blk s H scope (compEnvC scope cl C X.env) fp) tg g) (ht : ∀ (s : Shared) (H : Hp) (C : Addr) (cl : List (Str × Addr)) (fp : List Addr), PDTs (X.blk s H scope (compEnvC scope cl C X.env) fp) ifs t)
    (he : ∀ (s : Shared) (H : Hp) (C : Addr) (cl : List (Str × Addr)) (fp : List Addr), PD (X.blk s H scope (compEnvC scope cl C X.env) fp) elt f) (hw : own.map (·.2) = vs := by rfl) (hs : ∀ x, foldedSetIterable iter X.env x = pure x := by intro _; rfl) :
    PSD X (.Assign [.Name y py] (.ListComp elt [⟨tg, iter, ifs, 0⟩] scope pos) spos) (gSet i (fLc fi bd t f vs)) := by
  subst hw
  exact psd_asg (ps_imp (ps_setLc hc hN hy hyl hsw hi ok hg ht he hs) fun D σ H h => lc_imp hgd hv σ H _ h)
/-- reading a list that may still grow: its length, an item of it -/
theorem rc_own {r : List V → Hp → VK → Prop} {g : PyData → Option PyData} {i : Nat} (hr : RC X.K r (one1 g)) : ∀ σ H Q, tD X.K (fun ρ => (fOwn i ρ).bind fun x => (g x).bind fun z => if flatD z = true then some z else none) σ H Q → tCB r (tCons (tVar i) tNil) σ H Q := fun σ H Q ⟨H0, B, ρ, d, s, hf, q⟩ => by
  obtain ⟨x, hx, hf⟩ := bind_some hf
  obtain ⟨z, hz, hf⟩ := bind_some hf
  obtain ⟨hfl, rfl⟩ := ite_some hf
  obtain ⟨w, e1, e2⟩ := own_read s hx
  refine ⟨w, e1, hr H H [w] [x] z Q (Same.refl _) (.cons e2 .nil) hz fun u B2 H2 t2 d2 => q u B H2 ⟨Same.refl _, s.bh.trans t2.h, t2.h, fun c o e1 e2 => by rw [e2] at e1; cases e1⟩ (flat_dp d2 hfl)⟩
end
end Dn

namespace Dn
open PySem L2 PySem.Spec PyProof.Rows
/-! ### lists that change: an item stored, an item read -/
section
variable {K : PySem.W.Frag} {H0 B H : Hp} {ρ : Rho} {σ : L2.St}
theorem dpAll_set {vs : List V} {ds : List PyData} (h : DpAll K H vs ds) {v : V} {d : PyData} (hv : Dp K H v d) : ∀ j : Nat, DpAll K H (vs.set j v) (ds.set j d) := by
  induction vs generalizing ds with
  | nil => intro j; cases h; exact .nil
  | cons w vs ih =>
    intro j
    cases h with
    | cons a b =>
      cases j with
      | zero => exact .cons hv b
      | succ j => exact .cons a (ih b j)
variable {X : Cx} {st : Stmt} {e a b : Expr} {es : List Expr} {pos : Pos} {f g : Rho → Option PyData}
/-- x[e] = y, x knows its list alone -/
def gSeti (i : Nat) (f g : Rho → Option PyData) : Rho → Option Out := fun ρ => match ρ[i]? with
  | some (some (.own o xs)) => (f ρ).bind fun y => (g ρ).bind fun k => match k with
    | .int n => (ixN xs.length n).map fun j => .nx (ρ.set i (some (.own o (xs.set j y))))
    | _ => none
  | _ => none
theorem psd_seti {i : Nat} (h : PS X st (tAsg (tD X.K f) (gSub (tVar i) (tD X.K g) rSetL))) : PSD X st (gSeti i f g) := ps_imp h fun D σ H ⟨B0, H0, ρ, o, ⟨B, t, s⟩, hf, q⟩ => by
  unfold gSeti at hf
  split at hf
  · rename_i ow xs hx
    obtain ⟨y, hy, hf⟩ := bind_some hf
    obtain ⟨k, hk, hf⟩ := bind_some hf
    split at hf
    · rename_i n
      obtain ⟨j, hj, rfl⟩ := Option.map_eq_some_iff.mp hf
      refine ⟨H0, B, ρ, y, s, hy, fun v B1 H1 t1 d1 => ?_⟩
      have s1 := s.tr t1
      obtain ⟨p, vs, h1, h2, h3, h4, h5, h6⟩ := s1.ow hx
      refine ⟨.ref p, h1, H0, B1, ρ, _, s1, hk, fun w B2 H2 t2 d2 => ?_⟩
      cases d2
      have s2 := s1.tr t2
      have hb := t2.stay h2 h4
      refine ⟨p, vs, n, j, rfl, rfl, t2.h _ _ h4, by rw [dpAll_len h5]; exact hj, ?_⟩
      exact q _ _ ⟨B2, ((t.trans t1).trans t2).put hb h3, sl_grow s2 hx h1 hb h3 (dpAll_set (dpAll_mono t2.b h5) (dp_mono t2.b d1) j) h6⟩
    · cases hf
  · cases hf
/-- x[e], x a list that may still change, the item flat -/
def fIxO (i : Nat) (g : Rho → Option PyData) : Rho → Option PyData := fun ρ => (fOwn i ρ).bind fun x => (g ρ).bind fun y => (ixD x y).bind fun z => if flatD z = true then some z else none
theorem pd_ixO {i : Nat} (ha : PE X a (tVar i)) (hb : PD X b g) (hs : PlainIx b) : PD X (.Subscript a b pos) (fIxO i g) := pe_imp (pe_ix ix_seq ha hb hs) fun σ H Q ⟨H0, B, ρ, d, s, hf, q⟩ => by
  obtain ⟨x, hx, hf⟩ := bind_some hf
  obtain ⟨y, hy, hf⟩ := bind_some hf
  obtain ⟨z, hz, hf⟩ := bind_some hf
  obtain ⟨hfl, rfl⟩ := ite_some hf
  obtain ⟨w, e1, e2⟩ := own_read s hx
  refine ⟨w, e1, H0, B, ρ, y, s, hy, fun v B1 H1 t1 d1 => ?_⟩
  exact rd_ix H1 H1 w v x y z Q (Same.refl _) (dp_mono t1.h e2) (dp_mono t1.t d1) hz fun u B2 H2 t2 d2 => q u B1 H2 (t1.trans ⟨Same.refl _, t1.t.trans t2.h, t2.h, fun c o e1 e2 => by rw [e2] at e1; cases e1⟩) (flat_dp d2 hfl)

/-! ### expressions that change a slot's list -/
structure TrX (H0 B H B' H' : Hp) : Prop where
  b : Same B B'
  t : Same B' H'
  h : Same H0 H → Same H0 H' ∧ ∀ a o, B' a = some o → B a = none → H0 a = none
theorem TrX.of {H0 B H B' H' : Hp} (t : Tr B H B' H') : TrX H0 B H B' H' := ⟨t.b, t.t, fun s => ⟨s.trans t.h, fun a o x y => s.free (t.f a o x y)⟩⟩
theorem TrX.trans {H0 B H B1 H1 B2 H2 : Hp} (p : TrX H0 B H B1 H1) (q : TrX H0 B1 H1 B2 H2) : TrX H0 B H B2 H2 := ⟨p.b.trans q.b, q.t, fun s => by
  obtain ⟨p1, p2⟩ := p.h s
  obtain ⟨q1, q2⟩ := q.h p1
  refine ⟨q1, fun a o x y => ?_⟩
  cases e : B1 a with
  | none => exact q2 a o x e
  | some u => exact p2 a u e y⟩
theorem Tr.cell {B0 H0 B H B' H' : Hp} (t : Tr B0 H0 B H) (x : TrX H0 B H B' H') : Tr B0 H0 B' H' := by
  obtain ⟨p1, p2⟩ := x.h t.h
  refine ⟨t.b.trans x.b, x.t, p1, fun a o u y => ?_⟩
  cases e : B a with
  | none => exact p2 a o u e
  | some w => exact t.f a w e y
def tDE (K : PySem.W.Frag) (f : Rho → Option (PyData × Rho)) : TE := fun σ H Q => ∃ H0 B ρ d ρ', Sl K H0 B ρ σ H ∧ f ρ = some (d, ρ') ∧ ∀ v B' H', TrX H0 B H B' H' → Sl K H0 B' ρ' σ H' → Dp K B' v d → Q v H'
def tDAE (K : PySem.W.Frag) (f : Rho → Option (List PyData × Rho)) : TA := fun σ H Q => ∃ H0 B ρ d ρ', Sl K H0 B ρ σ H ∧ f ρ = some (d, ρ') ∧ ∀ v B' H', TrX H0 B H B' H' → Sl K H0 B' ρ' σ H' → DpAll K B' v d → Q v H'
abbrev PDE (X : Cx) (e : Expr) (f : Rho → Option (PyData × Rho)) : Prop := PE X e (tDE X.K f)
abbrev PDAE (X : Cx) (es : List Expr) (f : Rho → Option (List PyData × Rho)) : Prop := PA X es (tDAE X.K f)
variable {fe : Rho → Option (PyData × Rho)} {fa : Rho → Option (List PyData × Rho)} {fs : Rho → Option (List PyData)}
def fE1 (fe : Rho → Option (PyData × Rho)) (fs : Rho → Option (List PyData)) : Rho → Option (List PyData × Rho) := fun ρ => (fe ρ).bind fun p => (fs p.2).bind fun xs => some (p.1 :: xs, p.2)
theorem pdae_first (he : PDE X e fe) (hr : PDA X es fs) (hs : starEach (e :: es) X.env = (false, eval e X.env) :: starEach es X.env := by rfl) : PDAE X (e :: es) (fE1 fe fs) := pa_imp (pa_cons he hr hs) fun σ H Q ⟨H0, B, ρ, d, ρ', s, hf, q⟩ => by
  obtain ⟨⟨x, ρ1⟩, hx, hf⟩ := bind_some hf
  obtain ⟨xs, hxs, hf⟩ := bind_some hf
  cases hf
  refine ⟨H0, B, ρ, x, ρ1, s, hx, fun v B1 H1 t1 s1 d1 => ⟨H0, B1, ρ1, xs, s1, hxs, fun vs B2 H2 t2 d2 => ?_⟩⟩
  exact q _ B2 H2 (t1.trans (TrX.of t2)) (s1.tr t2) (.cons (dp_mono t2.b d1) d2)
def fE2 (f : Rho → Option PyData) (fa : Rho → Option (List PyData × Rho)) : Rho → Option (List PyData × Rho) := fun ρ => (f ρ).bind fun x => (fa ρ).bind fun p => some (x :: p.1, p.2)
theorem pdae_cons (he : PD X e f) (hr : PDAE X es fa) (hs : starEach (e :: es) X.env = (false, eval e X.env) :: starEach es X.env := by rfl) : PDAE X (e :: es) (fE2 f fa) := pa_imp (pa_cons he hr hs) fun σ H Q ⟨H0, B, ρ, d, ρ', s, hf, q⟩ => by
  obtain ⟨x, hx, hf⟩ := bind_some hf
  obtain ⟨⟨xs, ρ1⟩, hxs, hf⟩ := bind_some hf
  cases hf
  refine ⟨H0, B, ρ, x, s, hx, fun v B1 H1 t1 d1 => ⟨H0, B1, ρ, xs, ρ1, s.tr t1, hxs, fun vs B2 H2 t2 s2 d2 => ?_⟩⟩
  exact q _ B2 H2 ((TrX.of t1).trans t2) s2 (.cons (dp_mono t2.b d1) d2)
def fTupE (fa : Rho → Option (List PyData × Rho)) : Rho → Option (PyData × Rho) := fun ρ => (fa ρ).bind fun p => if p.1.length ≤ bigL then some (.tuple p.1, p.2) else none
theorem pde_tup {x1} (h : PDAE X es fa) : PDE X (.Tuple es x1 pos) (fTupE fa) := pe_imp (pe_tup h) fun σ H Q ⟨H0, B, ρ, d, ρ', s, hf, q⟩ => by
  obtain ⟨⟨xs, ρ1⟩, hxs, hf⟩ := bind_some hf
  obtain ⟨hl, e⟩ := ite_some hf
  cases e
  refine ⟨H0, B, ρ, xs, _, s, hxs, fun vs B1 H1 t1 s1 d1 => ⟨by rw [dpAll_len d1]; exact bigL_le hl, fun p hp => ?_⟩⟩
  have t2 := Tr.new (o := .tup vs) s1.bh hp
  exact q _ _ _ (t1.trans (TrX.of t2)) (s1.tr t2) (.tup (SqT.of upd_same) (dpAll_mono t2.b d1))
/-- a call of a def over data, one of its arguments changing a list -/
def fCaE (n : Nat) (F : List PyData → Option PyData) (fa : Rho → Option (List PyData × Rho)) : Rho → Option (PyData × Rho) := fun ρ => (fa ρ).bind fun p => if p.1.length = n then (F p.1).map fun d => (d, p.2) else none
theorem pde_kn {n k : Nat} {x : Str} {p : Pos} {F : List PyData → Option PyData} (h : Kn X.prog X.w X.K X.mg X.base k n x F) (hr : Room k X.A) (ha : PDAE X (e :: es) fa) (hg : Gl X x := by rfl) (hdb : (x == ("__debug__" : Str)) = false := by decide)
    (he : starEach (e :: es) X.env = (false, eval e X.env) :: starEach es X.env := by rfl) (hpl : (backTo pos (starEach es X.env)).any (·.1) = false := by rfl) : PDE X (.Call (.Name x p) (e :: es) [] pos) (fCaE n F fa) := by
  obtain ⟨f, fd, ps, G, hm, hk, hb⟩ := h.ex
  refine pe_imp (pe_call (E := E0) G hr hg hm hk hb .nil pass0 ha hdb he hpl) fun σ H Q ⟨H0, B, ρ, d, ρ', s, hf, q⟩ => ?_
  obtain ⟨⟨ds, ρ1⟩, hds, hf⟩ := bind_some hf
  split at hf
  · rename_i hl
    obtain ⟨r, hF, e⟩ := Option.map_eq_some_iff.mp hf
    cases e
    refine ⟨H0, B, ρ, ds, _, s, hds, fun vs B1 H1 t1 s1 d1 => ?_⟩
    show spD X.K n F (vs ++ []) H1 Q E0
    rw [List.append_nil]
    exact ⟨B1, ds, _, s1.bh, d1, hl, hF, fun v B' H' t dd => q v B' H' (t1.trans (TrX.of t)) (s1.tr t) dd⟩
  · cases hf
def gSetE (i : Nat) (fe : Rho → Option (PyData × Rho)) : Rho → Option Out := fun ρ => (fe ρ).map fun p => .nx (p.2.set i (some (.d p.1)))
theorem psd_asgE {i : Nat} (h : PS X st (tAsg (tDE X.K fe) (gName i))) : PSD X st (gSetE i fe) := ps_imp h fun D σ H ⟨B0, H0, ρ, o, ⟨B, t, s⟩, hf, q⟩ => by
  obtain ⟨⟨d, ρ1⟩, hd, rfl⟩ := Option.map_eq_some_iff.mp hf
  exact ⟨H0, B, ρ, d, ρ1, s, hd, fun v B1 H1 t1 s1 d1 => q _ _ ⟨B1, t.cell t1, sl_setD s1 d1⟩⟩
def gRetE (fe : Rho → Option (PyData × Rho)) : Rho → Option Out := fun ρ => (fe ρ).map fun p => .rt p.1 p.2
theorem psd_retE (he : PDE X e fe) : PSD X (.Return (some e) pos) (gRetE fe) := ps_imp (ps_ret he) fun D σ H ⟨B0, H0, ρ, o, ⟨B, t, s⟩, hf, q⟩ => by
  obtain ⟨⟨d, ρ1⟩, hd, rfl⟩ := Option.map_eq_some_iff.mp hf
  exact ⟨H0, B, ρ, d, ρ1, s, hd, fun v B1 H1 t1 s1 d1 => q v σ B1 H1 (t.cell t1) s1 d1⟩

/-! ### a def that changes the list that is its second argument -/
def rm (H : Hp) (a : Addr) : Hp := fun b => if b = a then none else H b
theorem rm_ne {H : Hp} {a b : Addr} (h : b ≠ a) : rm H a b = H b := by unfold rm; rw [if_neg h]
theorem rm_same {H : Hp} {a : Addr} : rm H a a = none := by unfold rm; rw [if_pos rfl]
theorem rm_le {H : Hp} {a : Addr} : Same (rm H a) H := fun b o e => by
  by_cases z : b = a
  · subst z; rw [rm_same] at e; cases e
  · rw [rm_ne z] at e; exact e
theorem same_rm {B H : Hp} {a : Addr} (s : Same B H) (h : B a = none) : Same B (rm H a) := fun b o e => by
  rw [rm_ne (ne_of_none e h)]
  exact s b o e
def spC (K : PySem.W.Frag) (n : Nat) (F : List PyData → List PyData → Option (PyData × List PyData)) : Sp := fun vs H Q _ => ∃ (B : Hp) (v0 : V) (a : Addr) (rest : List V) (ds xs : List PyData) (us : List V) (d : PyData) (xs' : List PyData),
  vs = v0 :: .ref a :: rest ∧ Same B H ∧ B a = none ∧ H a = some (.lst us) ∧ DpAll K B us xs ∧ DpAll K B (v0 :: rest) ds ∧ ds.length + 1 = n ∧ F ds xs = some (d, xs') ∧
  ∀ v B' H' ws, Tr B (rm H a) B' H' → B' a = none → H' a = some (.lst ws) → DpAll K B' ws xs' → Dp K B' v d → Q v H'
def startC (n : Nat) (a : Addr) (ds xs : List PyData) : Rho := match ds with
  | [] => []
  | d :: r => some (.d d) :: some (.own (some a) xs) :: (r.map (fun d => some (.d d)) ++ List.replicate (n - (r.length + 2)) none)
def retC (a : Addr) : Option Out → Option (PyData × List PyData)
  | some (.rt d ρ) => match (ρ[1]? : Option (Option Sv)) with
    | some (some (.own (some b) xs)) => if b = a then some (d, xs) else none
    | _ => none
  | _ => none
theorem sl_startC {v0 : V} {a : Addr} {rest us : List V} {ds xs : List PyData} {N : List Str} (s : Same B H) (hb : B a = none) (ha : H a = some (.lst us)) (hx : DpAll K B us xs) (h : DpAll K B (v0 :: rest) ds) :
    Sl K (rm H a) B (startC N.length a ds xs) (L2.start N (v0 :: .ref a :: rest)) H := by
  cases h with
  | @cons _ _ d r h1 h2 =>
    have hl := dpAll_len h2
    have hN : L2.start N (v0 :: .ref a :: rest) = some v0 :: some (.ref a) :: (rest.map some ++ List.replicate (N.length - (rest.length + 2)) none) := rfl
    rw [hN]
    have own1 : ∀ {i : Nat} {o : Option Addr} {ys : List PyData}, (startC N.length a (d :: r) xs)[i]? = some (some (.own o ys)) → i = 1 ∧ o = some a ∧ ys = xs := by
      intro i o ys e
      unfold startC at e
      match i, e with
      | 0, e => cases e
      | 1, e => cases e; exact ⟨rfl, rfl, rfl⟩
      | i + 2, e =>
        simp only [List.getElem?_cons_succ] at e
        by_cases hi : i < r.length
        · rw [List.getElem?_append_left (by simpa using hi), List.getElem?_map] at e
          obtain ⟨d', hd, e⟩ := Option.map_eq_some_iff.mp e
          cases e
        · rw [List.getElem?_append_right (by simpa using hi), List.getElem?_replicate] at e
          split at e <;> cases e
    refine ⟨s, by simp [startC, hl], fun {i x} e => ?_, fun {i o ys} e => ?_, fun {i j o o' ys zs c} e e' _ _ => ?_⟩
    · unfold startC at e
      match i, e with
      | 0, e => cases e; exact ⟨v0, rfl, h1⟩
      | 1, e => cases e
      | i + 2, e =>
        simp only [List.getElem?_cons_succ] at e ⊢
        by_cases hi : i < r.length
        · rw [List.getElem?_append_left (by simpa using hi), List.getElem?_map] at e
          obtain ⟨d', hd, e⟩ := Option.map_eq_some_iff.mp e
          cases e
          obtain ⟨v, hv, hdv⟩ := dpAll_get h2 hd
          refine ⟨v, ?_, hdv⟩
          rw [List.getElem?_append_left (by simpa [hl] using hi), List.getElem?_map, hv]
          rfl
        · rw [List.getElem?_append_right (by simpa using hi), List.getElem?_replicate] at e
          split at e <;> cases e
    · obtain ⟨rfl, rfl, rfl⟩ := own1 e
      exact ⟨a, us, rfl, hb, rm_same, ha, hx, fun b e => Option.some.inj e⟩
    · rw [(own1 e).1, (own1 e').1]
structure KnC (P : Program) (w : World) (K : PySem.W.Frag) (mg : Str → Option Value) (base : Heap) (k n : Nat) (x : Str) (F : List PyData → List PyData → Option (PyData × List PyData)) : Prop where
  ex : ∃ f fd ps, FnOk P w K mg base CX0 k f fd ps (spC K n F) ∧ mg x = some (.ref f) ∧ PySem.W.keepIn K (.ref f) = true ∧ L2.Binds K fd ps []
end
section
variable {P : Program} {w : World} {K : PySem.W.Frag} {mg : Str → Option Value} {base : Heap} {x : Str} {st : Stmt} {F : List PyData → List PyData → Option (PyData × List PyData)}
theorem KnC.mono {j k n : Nat} (h : KnC P w K mg base j n x F) (l : j ≤ k) : KnC P w K mg base k n x F := by
  obtain ⟨f, fd, ps, a, b⟩ := h.ex
  exact ⟨f, fd, ps, a.mono l, b⟩
theorem KnC.none {ps : List Str} (D : Df K mg x st ps) {k n : Nat} : KnC P w K mg base k n x fun _ _ => .none := by
  obtain ⟨f, fd, Fu, m, b⟩ := D.ex
  have no : ∀ vs H Q E, ¬ spC K n (fun _ _ => Option.none) vs H Q E := fun vs H Q E ⟨_, _, _, _, _, _, _, _, _, _, _, _, _, _, _, _, h, _⟩ => nomatch h
  exact ⟨f, fd, ps, ⟨fun vs H Q E h => absurd h (no vs H Q E), fun A outer s H args us vs Q E _ _ _ _ h => absurd h (no vs H Q E)⟩, m, Fu.kp, b⟩
theorem knC_of {N ps : List Str} {k : Nat} {g : Rho → Option Out} (D : Df K mg x st ps) (S : FnScope N ps (defScope st)) (hF : ∀ a ds xs r, ds.length + 1 = ps.length → F ds xs = some r → retC a (g (startC N.length a ds xs)) = some r)
    (hb : ∀ (f : Addr) (cdv : Value) (A : Around) (outer : List Env) (s : Shared) (H : Hp) (E : XK), Room k (A.deeper (envOfC x (defScope st) s.heap.objs.size f cdv)) → PSDs (cxOf CX0 P w K mg base N x (defScope st) f cdv A outer s H E).nox (defBody st) g) :
    KnC P w K mg base (k + 1) ps.length x F := by
  obtain ⟨f, fd, Fu, m, b⟩ := D.ex
  refine ⟨f, fd, ps, Fu.ok S (fun vs H Q E ⟨B, v0, a, rest, ds, xs, us, d, xs', e, _, _, _, _, h5, h6, _⟩ => ?_) (fun cdv A outer s H vs Q E hr ⟨B, v0, a, rest, ds, xs, us, d, xs', e, h1, h2, h3, h4, h5, h6, h7, q⟩ => ?_), m, Fu.kp, b⟩
  · rw [e, ← h6, ← dpAll_len h5]; rfl
  · subst e
    refine ⟨_, hb f cdv A outer s H E hr, B, rm H a, startC N.length a ds xs, ?_⟩
    have h8 := hF a ds xs _ h6 h7
    unfold retC at h8
    split at h8
    · rename_i o d1 ρ1 e1
      split at h8
      · rename_i b1 ys e2
        obtain ⟨rfl, e3⟩ := ite_some h8
        cases e3
        refine ⟨_, ⟨B, ⟨Same.refl _, h1, rm_le, fun c o e1 e2 => by rw [e2] at e1; cases e1⟩, ?_⟩, e1, fun v σ' B' H' t s' dd => ?_⟩
        · exact sl_startC h1 h2 h3 h4 h5
        · obtain ⟨c, ws, z1, z2, z3, z4, z5, z6⟩ := s'.ow e2
          have := z6 _ rfl
          subst this
          exact q v B' H' ws t z2 z4 z5 dd
      · cases h8
    · cases h8
end
section
variable {X : Cx} {k n : Nat} {x : Str} {p pos : Pos} {e es0 : Expr} {es : List Expr} {f : Rho → Option PyData} {fs : Rho → Option (List PyData)} {F : List PyData → List PyData → Option (PyData × List PyData)}
def fCaC (n : Nat) (F : List PyData → List PyData → Option (PyData × List PyData)) (j : Nat) (f : Rho → Option PyData) (fs : Rho → Option (List PyData)) : Rho → Option (PyData × Rho) := fun ρ => (f ρ).bind fun d0 => (fs ρ).bind fun ds => match ρ[j]? with
  | some (some (.own o xs)) => if ds.length + 2 = n then (F (d0 :: ds) xs).map fun p => (p.1, ρ.set j (some (.own o p.2))) else none
  | _ => none
theorem sl_cell {K : PySem.W.Frag} {H0 B H B' H' : Hp} {ρ : Rho} {σ : L2.St} (s : Sl K H0 B ρ σ H) {j : Nat} {a : Addr} {o : Option Addr} {xs ys : List PyData} {ws : List V} (hx : ρ[j]? = some (some (.own o xs))) (h1 : σ[j]? = some (some (V.ref a)))
    (h0 : H0 a = none) (t : Tr B (rm H a) B' H') (hb : B' a = none) (ha : H' a = some (.lst ws)) (hd : DpAll K B' ws ys) (ho : ∀ b, o = some b → a = b) : Sl K H0 B' (ρ.set j (some (.own o ys))) σ H' := by
  refine ⟨t.t, by simp [s.len], fun {i y} e => ?_, fun {i oi us} e => ?_, fun {i m oi om us vs c} e1 e2 e3 e4 => ?_⟩
  · rcases get_set e with ⟨_, _, z⟩ | ⟨_, e⟩
    · cases z
    · obtain ⟨v, e1, e2⟩ := s.dv e
      exact ⟨v, e1, dp_mono t.b e2⟩
  · rcases get_set e with ⟨rfl, _, z⟩ | ⟨n, e⟩
    · cases z; exact ⟨a, ws, h1, hb, h0, ha, hd, ho⟩
    · obtain ⟨c, vs, e1, e2, e3, e4, e5, e6⟩ := s.ow e
      have hne : c ≠ a := fun z => by subst z; exact n (s.ap hx e h1 e1)
      have hr : rm H a c = some (.lst vs) := by rw [rm_ne hne]; exact e4
      exact ⟨c, vs, e1, t.stay e2 hr, e3, t.h _ _ hr, dpAll_mono t.b e5, e6⟩
  · have f1 : ∃ o' us', ρ[i]? = some (some (.own o' us')) := by
      rcases get_set e1 with ⟨rfl, _, _⟩ | ⟨_, e⟩
      · exact ⟨_, _, hx⟩
      · exact ⟨_, _, e⟩
    have f2 : ∃ o' us', ρ[m]? = some (some (.own o' us')) := by
      rcases get_set e2 with ⟨rfl, _, _⟩ | ⟨_, e⟩
      · exact ⟨_, _, hx⟩
      · exact ⟨_, _, e⟩
    obtain ⟨_, _, f1⟩ := f1
    obtain ⟨_, _, f2⟩ := f2
    exact s.ap f1 f2 e3 e4
theorem trX_cell {H0 B H B' H' : Hp} {a : Addr} (h0 : H0 a = none) (t : Tr B (rm H a) B' H') (hb : B' a = none) : TrX H0 B H B' H' := ⟨t.b, t.t, fun s => ⟨fun c o e => t.h c o (by rw [rm_ne (ne_of_none e h0)]; exact s c o e), fun c o e1 e2 => by
  have z := t.f c o e1 e2
  have hne : c ≠ a := fun w => by subst w; rw [hb] at e1; cases e1
  rw [rm_ne hne] at z
  exact s.free z⟩⟩
theorem pde_knC {j : Nat} (h : KnC X.prog X.w X.K X.mg X.base k n x F) (hr : Room k X.A) (h0 : PD X e f) (hj : PE X es0 (tVar j)) (ha : PDA X es fs) (hg : Gl X x := by rfl) (hdb : (x == ("__debug__" : Str)) = false := by decide)
    (he : starEach (e :: es0 :: es) X.env = (false, eval e X.env) :: starEach (es0 :: es) X.env := by rfl) (he2 : starEach (es0 :: es) X.env = (false, eval es0 X.env) :: starEach es X.env := by rfl) (hpl : (backTo pos (starEach (es0 :: es) X.env)).any (·.1) = false := by rfl) :
    PDE X (.Call (.Name x p) (e :: es0 :: es) [] pos) (fCaC n F j f fs) := by
  obtain ⟨fa, fd, ps, G, hm, hk, hb⟩ := h.ex
  refine pe_imp (pe_call (E := E0) G hr hg hm hk hb .nil pass0 (pa_cons h0 (pa_cons hj ha he2) he) hdb he hpl) fun σ H Q ⟨H0, B, ρ, d, ρ', s, hf, q⟩ => ?_
  obtain ⟨d0, hd0, hf⟩ := bind_some hf
  obtain ⟨ds, hds, hf⟩ := bind_some hf
  split at hf
  · rename_i o xs hx
    split at hf
    · rename_i hl
      obtain ⟨⟨r, xs'⟩, hF, e⟩ := Option.map_eq_some_iff.mp hf
      cases e
      refine ⟨H0, B, ρ, d0, s, hd0, fun v B1 H1 t1 d1 => ?_⟩
      have s1 := s.tr t1
      obtain ⟨a, us, z1, z2, z3, z4, z5, z6⟩ := s1.ow hx
      refine ⟨.ref a, z1, H0, B1, ρ, ds, s1, hds, fun vs B2 H2 t2 d2 => ?_⟩
      have s2 := s1.tr t2
      have hb2 := t2.stay z2 z4
      show spC X.K n F ((v :: V.ref a :: vs) ++ []) H2 Q E0
      rw [List.append_nil]
      refine ⟨B2, v, a, vs, d0 :: ds, xs, us, r, xs', rfl, t2.t, hb2, t2.h _ _ z4, dpAll_mono t2.b z5, .cons (dp_mono t2.b d1) d2, hl, hF, fun u B' H' ws t hb' ha' dw du => ?_⟩
      exact q u B' H' ((TrX.of (t1.trans t2)).trans (trX_cell z3 t hb')) (sl_cell s2 hx z1 z3 t hb' ha' dw z6) du
    · cases hf
  · cases hf
end
end Dn

/-! The meanings, applied: for simp, without going under a binder. -/
namespace Dn
open PySem L2
/-- two texts are the same -/
def sEq (a b : Str) : Bool := decide (a = b)
@[simp] theorem sEq_same (a : Str) : sEq a a = true := decide_eq_true rfl
theorem sEq_ne {a b : Str} (h : ¬ a = b) : sEq a b = false := decide_eq_false h
theorem sEq_iff {a b : Str} : sEq a b = true ↔ a = b := decide_eq_true_iff
section
variable (ρ : Rho) (i j n : Nat) (f g h : Rho → Option PyData) (ft gt : Rho → Option Bool) (fs : Rho → Option (List PyData)) (G G' : Rho → Option Out) (fl fh : Rho → Option (Option Int)) (d x y : PyData) (xs ys : List PyData) (b : Bool) (k m : Int)
def slot : Option (Option Sv) → Option PyData
  | some (some (.d x)) => some x
  | _ => none
@[simp] theorem fV_ap : fV i ρ = slot ρ[i]? := by unfold fV slot; rfl
@[simp] theorem slot_d : slot (some (some (.d x))) = some x := rfl
@[simp] theorem fC_ap : fC d ρ = some d := rfl
def ap2 (op : PyData → PyData → Option PyData) : Option PyData → Option PyData → Option PyData
  | some x, some y => op x y
  | _, _ => none
@[simp] theorem ap2_some (op) : ap2 op (some x) (some y) = op x y := rfl
@[simp] theorem f2_ap (op) : f2 op f g ρ = ap2 op (f ρ) (g ρ) := by unfold f2 ap2; cases f ρ <;> cases g ρ <;> rfl
def ap1 (op : PyData → Option PyData) : Option PyData → Option PyData
  | some x => op x
  | _ => none
@[simp] theorem ap1_some (op) : ap1 op (some x) = op x := rfl
@[simp] theorem f1_ap (op) : f1 op f ρ = ap1 op (f ρ) := by unfold f1 ap1; cases f ρ <;> rfl
def unB : Option PyData → Option Bool
  | some (.bool b) => some b
  | _ => none
@[simp] theorem unB_some : unB (some (.bool b)) = some b := rfl
@[simp] theorem fB_ap : fB f ρ = unB (f ρ) := rfl
def andT : Option Bool → Option Bool → Option Bool
  | some true, y => y
  | some false, _ => some false
  | none, _ => none
def orT : Option Bool → Option Bool → Option Bool
  | some true, _ => some true
  | some false, y => y
  | none, _ => none
@[simp] theorem andT_t (y) : andT (some true) y = y := rfl
@[simp] theorem andT_f (y) : andT (some false) y = some false := rfl
@[simp] theorem orT_t (y) : orT (some true) y = some true := rfl
@[simp] theorem orT_f (y) : orT (some false) y = y := rfl
theorem andT_ss (a c : Bool) : andT (some a) (some c) = some (a && c) := by cases a <;> rfl
theorem orT_ss (a c : Bool) : orT (some a) (some c) = some (a || c) := by cases a <;> rfl
@[simp] theorem fAndT_ap : fAndT ft gt ρ = andT (ft ρ) (gt ρ) := by unfold fAndT andT; cases ft ρ with | none => rfl | some c => cases c <;> rfl
@[simp] theorem fOrT_ap : fOrT ft gt ρ = orT (ft ρ) (gt ρ) := by unfold fOrT orT; cases ft ρ with | none => rfl | some c => cases c <;> rfl
@[simp] theorem fNotT_ap : fNotT ft ρ = (ft ρ).map (!·) := by unfold fNotT; cases ft ρ <;> rfl
def andV : Option Bool → Option PyData → Option PyData
  | some true, y => y
  | some false, _ => some (.bool false)
  | none, _ => none
def orV : Option Bool → Option PyData → Option PyData
  | some true, _ => some (.bool true)
  | some false, y => y
  | none, _ => none
@[simp] theorem andV_t (y) : andV (some true) y = y := rfl
@[simp] theorem andV_f (y) : andV (some false) y = some (.bool false) := rfl
@[simp] theorem orV_t (y) : orV (some true) y = some (.bool true) := rfl
@[simp] theorem orV_f (y) : orV (some false) y = y := rfl
@[simp] theorem andV_ss (a c : Bool) : andV (some a) (some (.bool c)) = some (.bool (a && c)) := by cases a <;> rfl
@[simp] theorem orV_ss (a c : Bool) : orV (some a) (some (.bool c)) = some (.bool (a || c)) := by cases a <;> rfl
@[simp] theorem fAnd_ap : fAnd f g ρ = andV (unB (f ρ)) (g ρ) := by unfold fAnd andV; rw [fB_ap]; cases unB (f ρ) with | none => rfl | some c => cases c <;> rfl
@[simp] theorem fOr_ap : fOr f g ρ = orV (unB (f ρ)) (g ρ) := by unfold fOr orV; rw [fB_ap]; cases unB (f ρ) with | none => rfl | some c => cases c <;> rfl
@[simp] theorem fNot_ap : fNot f ρ = (unB (f ρ)).map fun c => .bool (!c) := by unfold fNot; rw [fB_ap]; cases unB (f ρ) <;> rfl
def iteV : Option Bool → (Rho → Option PyData) → (Rho → Option PyData) → Rho → Option PyData
  | some true, f, _, ρ => f ρ
  | some false, _, g, ρ => g ρ
  | none, _, _, _ => none
@[simp] theorem iteV_t : iteV (some true) f g ρ = f ρ := rfl
@[simp] theorem iteV_f : iteV (some false) f g ρ = g ρ := rfl
@[simp] theorem fIf_ap : fIf ft f g ρ = iteV (ft ρ) f g ρ := by unfold fIf iteV; cases ft ρ with | none => rfl | some c => cases c <;> rfl
@[simp] theorem fNil_ap : fNil ρ = some [] := rfl
def consO : Option PyData → Option (List PyData) → Option (List PyData)
  | some x, some xs => some (x :: xs)
  | _, _ => none
@[simp] theorem consO_some : consO (some x) (some xs) = some (x :: xs) := rfl
@[simp] theorem fCons_ap : fCons f fs ρ = consO (f ρ) (fs ρ) := by unfold fCons consO; cases f ρ <;> cases fs ρ <;> rfl
def lstO : Option (List PyData) → Option PyData
  | some xs => if xs.length ≤ bigL then some (.list xs) else none
  | none => none
def tupO : Option (List PyData) → Option PyData
  | some xs => if xs.length ≤ bigL then some (.tuple xs) else none
  | none => none
@[simp] theorem lstO_0 : lstO (some []) = some (.list []) := rfl
@[simp] theorem lstO_1 (a) : lstO (some [a]) = some (.list [a]) := rfl
@[simp] theorem lstO_2 (a b) : lstO (some [a, b]) = some (.list [a, b]) := rfl
@[simp] theorem lstO_3 (a b c) : lstO (some [a, b, c]) = some (.list [a, b, c]) := rfl
@[simp] theorem lstO_5 (a b c d e) : lstO (some [a, b, c, d, e]) = some (.list [a, b, c, d, e]) := rfl
@[simp] theorem tupO_1 (a) : tupO (some [a]) = some (.tuple [a]) := rfl
@[simp] theorem tupO_2 (a b) : tupO (some [a, b]) = some (.tuple [a, b]) := rfl
@[simp] theorem tupO_3 (a b c) : tupO (some [a, b, c]) = some (.tuple [a, b, c]) := rfl
@[simp] theorem fLst_ap : fLst fs ρ = lstO (fs ρ) := by unfold fLst lstO; cases fs ρ <;> rfl
@[simp] theorem fTup_ap : fTup fs ρ = tupO (fs ρ) := by unfold fTup tupO; cases fs ρ <;> rfl
@[simp] theorem fO0_ap : fO0 ρ = some none := rfl
def intO : Option PyData → Option (Option Int)
  | some (.int i) => some (some i)
  | _ => none
@[simp] theorem intO_some : intO (some (.int k)) = some (some k) := rfl
@[simp] theorem fO_ap : fO f ρ = intO (f ρ) := rfl
def slO : Option PyData → Option (Option Int) → Option (Option Int) → Option PyData
  | some x, some l, some h => slD l h x
  | _, _, _ => none
@[simp] theorem slO_some (l u) : slO (some x) (some l) (some u) = slD l u x := rfl
@[simp] theorem fSl_ap : fSl f fl fh ρ = slO (f ρ) (fl ρ) (fh ρ) := by unfold fSl slO; cases f ρ <;> cases fl ρ <;> cases fh ρ <;> rfl
def clO (F : List PyData → Option PyData) : Option (List PyData) → Option PyData
  | some xs => F xs
  | none => none
@[simp] theorem clO_some (F) : clO F (some xs) = F xs := rfl
@[simp] theorem fCl_ap (F) : fCl F fs ρ = clO F (fs ρ) := by unfold fCl clO; cases fs ρ <;> rfl
@[simp] theorem one1_ap (F) : one1 F [x] = F x := rfl
def caO (n : Nat) (F : List PyData → Option PyData) : Option (List PyData) → Option PyData
  | some xs => if xs.length = n then F xs else none
  | none => none
@[simp] theorem caO_1 (F a) : caO 1 F (some [a]) = F [a] := rfl
@[simp] theorem caO_2 (F a b) : caO 2 F (some [a, b]) = F [a, b] := rfl
@[simp] theorem caO_3 (F a b c) : caO 3 F (some [a, b, c]) = F [a, b, c] := rfl
@[simp] theorem caO_4 (F a b c d) : caO 4 F (some [a, b, c, d]) = F [a, b, c, d] := rfl
@[simp] theorem caO_5 (F a b c d e) : caO 5 F (some [a, b, c, d, e]) = F [a, b, c, d, e] := rfl
@[simp] theorem fCa_ap (F) : fCa n F fs ρ = caO n F (fs ρ) := by unfold fCa caO; cases fs ρ <;> rfl
def mtO (F : PyData → List PyData → Option PyData) : Option PyData → Option (List PyData) → Option PyData
  | some x, some xs => F x xs
  | _, _ => none
@[simp] theorem mtO_some (F) : mtO F (some x) (some xs) = F x xs := rfl
@[simp] theorem fMt_ap (F) : fMt F f fs ρ = mtO F (f ρ) (fs ρ) := by unfold fMt mtO; cases f ρ <;> cases fs ρ <;> rfl
def seqO1 (F : PyData → Option (List PyData)) : Option PyData → Option (List PyData)
  | some x => F x
  | none => none
@[simp] theorem seqO1_some (F) : seqO1 F (some x) = F x := rfl
@[simp] theorem fSeq_ap : fSeq f ρ = seqO1 seqD (f ρ) := by unfold fSeq seqO1; cases f ρ <;> rfl
@[simp] theorem fR1_ap : fR1 f ρ = seqO1 range1D (f ρ) := by unfold fR1 seqO1; cases f ρ <;> rfl
def seqO2 (F : PyData → PyData → Option (List PyData)) : Option PyData → Option PyData → Option (List PyData)
  | some x, some y => F x y
  | _, _ => none
@[simp] theorem seqO2_some (F) : seqO2 F (some x) (some y) = F x y := rfl
@[simp] theorem fR2_ap : fR2 f g ρ = seqO2 range2D (f ρ) (g ρ) := by unfold fR2 seqO2; cases f ρ <;> cases g ρ <;> rfl
@[simp] theorem fZ_ap : fZ f g ρ = seqO2 zip2D (f ρ) (g ρ) := by unfold fZ seqO2; cases f ρ <;> cases g ρ <;> rfl
@[simp] theorem seqD_l : seqD (.list xs) = some xs := rfl
@[simp] theorem seqD_t : seqD (.tuple xs) = some xs := rfl
@[simp] theorem seqD_s (z : Str) : seqD (.str z) = some (signsD z) := rfl
@[simp] theorem zip2D_l : zip2D (.list xs) (.list ys) = some (zipD xs ys) := rfl
@[simp] theorem b1_ap : b1 i x ρ = some (ρ.set i (some (.d x))) := rfl
@[simp] theorem b2_ap : b2 i j (.tuple [x, y]) ρ = some ((ρ.set i (some (.d x))).set j (some (.d y))) := rfl
@[simp] theorem tYesD_ap : tYesD ρ = some true := rfl
@[simp] theorem wipeR_0 : wipeR ρ [] = ρ := rfl
@[simp] theorem wipeR_c (vs) : wipeR ρ (i :: vs) = (wipeR ρ vs).set i none := rfl
def lcO (bd : PyData → Rho → Option Rho) (t : Rho → Option Bool) (f : Rho → Option PyData) (ρ : Rho) : Option (List PyData) → Option PyData
  | some xs => if xs.length ≤ bigL then (lcGo bd t f ρ xs).map .list else none
  | none => none
@[simp] theorem lcO_0 (bd t f ρ) : lcO bd t f ρ (some []) = some (.list []) := rfl
@[simp] theorem lcO_1 (bd t f ρ a) : lcO bd t f ρ (some [a]) = (lcGo bd t f ρ [a]).map .list := rfl
@[simp] theorem lcO_2 (bd t f ρ a c) : lcO bd t f ρ (some [a, c]) = (lcGo bd t f ρ [a, c]).map .list := rfl
@[simp] theorem fLc_ap (fi bd t vs) : fLc fi bd t f vs ρ = lcO bd t f (wipeR ρ vs) (fi ρ) := by unfold fLc lcO; cases fi ρ <;> rfl
def lcC : Option Bool → Option PyData → Option (List PyData) → Option (List PyData)
  | some true, some y, some r => some (y :: r)
  | some false, _, r => r
  | _, _, _ => none
@[simp] theorem lcC_t (r) : lcC (some true) (some y) (some r) = some (y :: r) := rfl
@[simp] theorem lcC_f (z r) : lcC (some false) z r = r := rfl
def lcB (t : Rho → Option Bool) (f : Rho → Option PyData) (r : Option (List PyData)) : Option Rho → Option (List PyData)
  | some ρ1 => lcC (t ρ1) (f ρ1) r
  | none => none
@[simp] theorem lcB_some (t r) : lcB t f r (some ρ) = lcC (t ρ) (f ρ) r := rfl
@[simp] theorem lcGo_0 (bd t) : lcGo bd t f ρ [] = some [] := rfl
@[simp] theorem lcGo_c (bd t) : lcGo bd t f ρ (x :: xs) = lcB t f (lcGo bd t f ρ xs) (bd x ρ) := by
  rw [lcGo]
  unfold lcB lcC
  cases bd x ρ with
  | none => rfl
  | some ρ1 =>
    simp only [Option.bind_some]
    cases t ρ1 with
    | none => rfl
    | some c =>
      cases c with
      | false => simp
      | true =>
        cases f ρ1 with
        | none => rfl
        | some y => cases lcGo bd t f ρ xs <;> rfl
/-! statements -/
@[simp] theorem gNx_ap : gNx ρ = some (.nx ρ) := rfl
def seqO (h : Rho → Option Out) : Option Out → Option Out
  | some (.nx ρ) => h ρ
  | o => o
@[simp] theorem seqO_nx : seqO G (some (.nx ρ)) = G ρ := rfl
@[simp] theorem seqO_rt : seqO G (some (.rt d ρ)) = some (.rt d ρ) := rfl
@[simp] theorem seqO_bk : seqO G (some (.bk ρ)) = some (.bk ρ) := rfl
@[simp] theorem seqO_ct : seqO G (some (.ct ρ)) = some (.ct ρ) := rfl
@[simp] theorem gSeq_ap : gSeq G G' ρ = seqO G' (G ρ) := by unfold gSeq seqO; cases G ρ with | none => rfl | some o => cases o <;> rfl
def retO (ρ : Rho) : Option PyData → Option Out
  | some d => some (.rt d ρ)
  | none => none
@[simp] theorem retO_some : retO ρ (some d) = some (.rt d ρ) := rfl
@[simp] theorem gRet_ap : gRet f ρ = retO ρ (f ρ) := by unfold gRet retO; cases f ρ <;> rfl
def setO (i : Nat) (ρ : Rho) : Option PyData → Option Out
  | some d => some (.nx (ρ.set i (some (.d d))))
  | none => none
@[simp] theorem setO_some : setO i ρ (some d) = some (.nx (ρ.set i (some (.d d)))) := rfl
@[simp] theorem gSet_ap : gSet i f ρ = setO i ρ (f ρ) := by unfold gSet setO; cases f ρ <;> rfl
def ownO (i : Nat) (ρ : Rho) : Option (List PyData) → Option Out
  | some xs => if xs.length ≤ bigL then some (.nx (ρ.set i (some (.own none xs)))) else none
  | none => none
@[simp] theorem ownO_0 : ownO i ρ (some []) = some (.nx (ρ.set i (some (.own none [])))) := rfl
@[simp] theorem ownO_1 : ownO i ρ (some [x]) = some (.nx (ρ.set i (some (.own none [x])))) := rfl
@[simp] theorem gOwn_ap : gOwn i fs ρ = ownO i ρ (fs ρ) := by unfold gOwn ownO; cases fs ρ <;> rfl
def iteO : Option Bool → (Rho → Option Out) → (Rho → Option Out) → Rho → Option Out
  | some true, g, _, ρ => g ρ
  | some false, _, h, ρ => h ρ
  | none, _, _, _ => none
@[simp] theorem iteO_t : iteO (some true) G G' ρ = G ρ := rfl
@[simp] theorem iteO_f : iteO (some false) G G' ρ = G' ρ := rfl
@[simp] theorem gIf_ap : gIf ft G G' ρ = iteO (ft ρ) G G' ρ := by unfold gIf iteO; cases ft ρ with | none => rfl | some c => cases c <;> rfl
def appO (i : Nat) (ρ : Rho) : Option (Option Sv) → Option PyData → Option Out
  | some (some (.own o xs)), some y => if xs.length < bigL then some (.nx (ρ.set i (some (.own o (xs ++ [y]))))) else none
  | _, _ => none
@[simp] theorem gApp_ap : gApp i f ρ = appO i ρ ρ[i]? (f ρ) := by
  unfold gApp appO
  split
  · rename_i o xs e; rw [e]; cases f ρ <;> rfl
  · rename_i h
    split
    · rename_i o xs y e1 e2; exact absurd e1 (h o xs)
    · rfl
def forO (bd : PyData → Rho → Option Rho) (G : Rho → Option Out) (ρ : Rho) : Option (List PyData) → Option Out
  | some xs => forGo bd G xs ρ
  | none => none
@[simp] theorem forO_some (bd) : forO bd G ρ (some xs) = forGo bd G xs ρ := rfl
@[simp] theorem gFor_ap (fi bd) : gFor fi bd G ρ = forO bd G ρ (fi ρ) := by unfold gFor forO; cases fi ρ <;> rfl
@[simp] theorem forGo_0 (bd) : forGo bd G [] ρ = some (.nx ρ) := rfl
def forN (bd : PyData → Rho → Option Rho) (G : Rho → Option Out) (xs : List PyData) : Option Out → Option Out
  | some (.nx ρ) => forGo bd G xs ρ
  | some (.ct ρ) => forGo bd G xs ρ
  | some (.bk ρ) => some (.nx ρ)
  | some (.rt d ρ) => some (.rt d ρ)
  | none => none
@[simp] theorem forN_nx (bd) : forN bd G xs (some (.nx ρ)) = forGo bd G xs ρ := rfl
@[simp] theorem forN_ct (bd) : forN bd G xs (some (.ct ρ)) = forGo bd G xs ρ := rfl
@[simp] theorem forN_bk (bd) : forN bd G xs (some (.bk ρ)) = some (.nx ρ) := rfl
@[simp] theorem forN_rt (bd) : forN bd G xs (some (.rt d ρ)) = some (.rt d ρ) := rfl
def forB (bd : PyData → Rho → Option Rho) (G : Rho → Option Out) (xs : List PyData) : Option Rho → Option Out
  | some ρ => forN bd G xs (G ρ)
  | none => none
@[simp] theorem forB_some (bd) : forB bd G xs (some ρ) = forN bd G xs (G ρ) := rfl
@[simp] theorem forGo_c (bd) : forGo bd G (x :: xs) ρ = forB bd G xs (bd x ρ) := by
  rw [forGo]
  unfold forB
  cases bd x ρ with
  | none => rfl
  | some ρ1 =>
    simp only [Option.bind_some]
    unfold forN
    cases G ρ1 with
    | none => rfl
    | some o => cases o <;> rfl
@[simp] theorem gBk_ap : gBk ρ = some (.bk ρ) := rfl
@[simp] theorem gCt_ap : gCt ρ = some (.ct ρ) := rfl
def whO (c : Rho → Option Bool) (G : Rho → Option Out) (n : Nat) : Option Out → Option Out
  | some (.nx ρ) => whileGo c G n ρ
  | some (.ct ρ) => whileGo c G n ρ
  | some (.bk ρ) => some (.nx ρ)
  | some (.rt d ρ) => some (.rt d ρ)
  | none => none
@[simp] theorem whO_nx : whO ft G n (some (.nx ρ)) = whileGo ft G n ρ := rfl
@[simp] theorem whO_ct : whO ft G n (some (.ct ρ)) = whileGo ft G n ρ := rfl
@[simp] theorem whO_bk : whO ft G n (some (.bk ρ)) = some (.nx ρ) := rfl
@[simp] theorem whO_rt : whO ft G n (some (.rt d ρ)) = some (.rt d ρ) := rfl
def augO (i : Nat) (ρ : Rho) : Option PyData → Option Out
  | some z => some (.nx (ρ.set i (some (.d z))))
  | none => none
@[simp] theorem augO_some : augO i ρ (some d) = some (.nx (ρ.set i (some (.d d)))) := rfl
@[simp] theorem gAug_ap (op) : gAug i op f ρ = augO i ρ (ap2 (ri op) (slot ρ[i]?) (f ρ)) := by
  unfold gAug augO
  rw [fV_ap]
  unfold ap2
  cases slot ρ[i]? with
  | none => rfl
  | some x =>
    cases f ρ with
    | none => rfl
    | some y =>
      simp only [Option.bind_some]
      generalize ri op x y = z
      cases z <;> rfl
def ownV : Option (Option Sv) → Option PyData
  | some (some (.d x)) => some x
  | some (some (.own _ xs)) => some (.list xs)
  | _ => none
@[simp] theorem ownV_d : ownV (some (some (.d x))) = some x := rfl
@[simp] theorem ownV_o (o) : ownV (some (some (.own o xs))) = some (.list xs) := rfl
@[simp] theorem fOwn_ap : fOwn i ρ = ownV ρ[i]? := by unfold fOwn ownV; rfl
def flatO : Option PyData → Option PyData
  | some z => if flatD z = true then some z else none
  | none => none
@[simp] theorem flatO_b : flatO (some (.bool b)) = some (.bool b) := rfl
@[simp] theorem flatO_i : flatO (some (.int k)) = some (.int k) := rfl
@[simp] theorem flatO_s (z) : flatO (some (.str z)) = some (.str z) := rfl
@[simp] theorem flatO_n : flatO (some .none) = some .none := rfl
@[simp] theorem fO2_ap (op) : fO2 op f g ρ = flatO (ap2 op (f ρ) (g ρ)) := by
  unfold fO2 flatO ap2
  cases f ρ with
  | none => rfl
  | some x =>
    cases g ρ with
    | none => rfl
    | some y => simp only [Option.bind_some]; cases op x y <;> rfl
@[simp] theorem fIxO_ap : fIxO i g ρ = flatO (ap2 ixD (ownV ρ[i]?) (g ρ)) := by
  unfold fIxO flatO ap2
  rw [fOwn_ap]
  cases ownV ρ[i]? with
  | none => rfl
  | some x =>
    cases g ρ with
    | none => rfl
    | some y => simp only [Option.bind_some]; cases ixD x y <;> rfl
def frzO (i : Nat) (ρ : Rho) : Option (Option Sv) → Rho
  | some (some (.own _ xs)) => ρ.set i (some (.d (.list xs)))
  | _ => ρ
@[simp] theorem frz_ap : frz i ρ = frzO i ρ ρ[i]? := by unfold frz frzO; rfl
@[simp] theorem frzO_o (o) : frzO i ρ (some (some (.own o xs))) = ρ.set i (some (.d (.list xs))) := rfl
@[simp] theorem frzO_d : frzO i ρ (some (some (.d x))) = ρ := rfl
@[simp] theorem retD_rt : retD (some (.rt d ρ)) = some d := rfl
@[simp] theorem retD_nx : retD (some (.nx ρ)) = some .none := rfl
theorem fnD_ap (n : Nat) : fnD n G xs = retD (G (startR n xs)) := rfl
@[simp] theorem startR_0 (n : Nat) : startR n [] = List.replicate n none := rfl
/-! effects -/
def setiO (i : Nat) (ρ : Rho) : Option (Option Sv) → Option PyData → Option PyData → Option Out
  | some (some (.own o xs)), some y, some (.int n) => (ixN xs.length n).map fun j => .nx (ρ.set i (some (.own o (xs.set j y))))
  | _, _, _ => none
@[simp] theorem gSeti_ap : gSeti i f g ρ = setiO i ρ ρ[i]? (f ρ) (g ρ) := by
  unfold gSeti setiO
  split
  · rename_i o xs e
    rw [e]
    cases f ρ with
    | none => rfl
    | some y =>
      cases g ρ with
      | none => rfl
      | some k => cases k <;> rfl
  · rename_i h
    split
    · rename_i o xs y n e1 e2 e3; exact absurd e1 (h o xs)
    · rfl
@[simp] theorem setiO_0 (o) : setiO i ρ (some (some (.own o [x]))) (some y) (some (.int 0)) = some (.nx (ρ.set i (some (.own o [y])))) := rfl
variable (fe : Rho → Option (PyData × Rho)) (fa : Rho → Option (List PyData × Rho))
def E1O (fs : Rho → Option (List PyData)) : Option (PyData × Rho) → Option (List PyData × Rho)
  | some (x, ρ) => (fs ρ).map fun xs => (x :: xs, ρ)
  | none => none
@[simp] theorem fE1_ap : fE1 fe fs ρ = E1O fs (fe ρ) := by
  unfold fE1 E1O
  cases fe ρ with
  | none => rfl
  | some p => obtain ⟨x, ρ1⟩ := p; simp only [Option.bind_some]; generalize fs ρ1 = z; cases z <;> rfl
@[simp] theorem E1O_some : E1O fs (some (x, ρ)) = (fs ρ).map fun xs => (x :: xs, ρ) := rfl
def E2O : Option PyData → Option (List PyData × Rho) → Option (List PyData × Rho)
  | some x, some (xs, ρ) => some (x :: xs, ρ)
  | _, _ => none
@[simp] theorem E2O_some : E2O (some x) (some (xs, ρ)) = some (x :: xs, ρ) := rfl
@[simp] theorem fE2_ap : fE2 f fa ρ = E2O (f ρ) (fa ρ) := by unfold fE2 E2O; cases f ρ <;> cases fa ρ <;> rfl
def tupEO : Option (List PyData × Rho) → Option (PyData × Rho)
  | some (xs, ρ) => if xs.length ≤ bigL then some (.tuple xs, ρ) else none
  | none => none
@[simp] theorem fTupE_ap : fTupE fa ρ = tupEO (fa ρ) := by unfold fTupE tupEO; cases fa ρ <;> rfl
@[simp] theorem tupEO_3 (a b c) : tupEO (some ([a, b, c], ρ)) = some (.tuple [a, b, c], ρ) := rfl
def caEO (n : Nat) (F : List PyData → Option PyData) : Option (List PyData × Rho) → Option (PyData × Rho)
  | some (xs, ρ) => if xs.length = n then (F xs).map fun d => (d, ρ) else none
  | none => none
@[simp] theorem fCaE_ap (F) : fCaE n F fa ρ = caEO n F (fa ρ) := by unfold fCaE caEO; cases fa ρ <;> rfl
@[simp] theorem caEO_2 (F a b) : caEO 2 F (some ([a, b], ρ)) = (F [a, b]).map fun d => (d, ρ) := rfl
def setEO (i : Nat) : Option (PyData × Rho) → Option Out
  | some (d, ρ) => some (.nx (ρ.set i (some (.d d))))
  | none => none
@[simp] theorem setEO_some : setEO i (some (d, ρ)) = some (.nx (ρ.set i (some (.d d)))) := rfl
@[simp] theorem gSetE_ap : gSetE i fe ρ = setEO i (fe ρ) := by unfold gSetE setEO; cases fe ρ <;> rfl
def retEO : Option (PyData × Rho) → Option Out
  | some (d, ρ) => some (.rt d ρ)
  | none => none
@[simp] theorem retEO_some : retEO (some (d, ρ)) = some (.rt d ρ) := rfl
@[simp] theorem gRetE_ap : gRetE fe ρ = retEO (fe ρ) := by unfold gRetE retEO; cases fe ρ <;> rfl
def caCO (n : Nat) (F : List PyData → List PyData → Option (PyData × List PyData)) (j : Nat) (ρ : Rho) : Option PyData → Option (List PyData) → Option (Option Sv) → Option (PyData × Rho)
  | some d0, some ds, some (some (.own o xs)) => if ds.length + 2 = n then (F (d0 :: ds) xs).map fun p => (p.1, ρ.set j (some (.own o p.2))) else none
  | _, _, _ => none
@[simp] theorem fCaC_ap (F) : fCaC n F j f fs ρ = caCO n F j ρ (f ρ) (fs ρ) ρ[j]? := by
  unfold fCaC caCO
  cases f ρ with
  | none => rfl
  | some d0 =>
    cases fs ρ with
    | none => rfl
    | some ds =>
      simp only [Option.bind_some]
      cases ρ[j]? with
      | none => rfl
      | some z =>
        cases z with
        | none => rfl
        | some z => cases z <;> rfl
@[simp] theorem caCO_2 (F d0 o) : caCO 2 F j ρ (some d0) (some []) (some (some (.own o xs))) = (F [d0] xs).map fun p => (p.1, ρ.set j (some (.own o p.2))) := rfl
@[simp] theorem caCO_5 (F d0 a b c o) : caCO 5 F j ρ (some d0) (some [a, b, c]) (some (some (.own o xs))) = (F [d0, a, b, c] xs).map fun p => (p.1, ρ.set j (some (.own o p.2))) := rfl
/-! by data -/
@[simp] theorem addD_i : addD (.int k) (.int m) = some (.int (k + m)) := rfl
@[simp] theorem ri_ap (op) : ri op (.int k) (.int m) = some (.int (op k m)) := rfl
@[simp] theorem rb_ap (op) : rb op (.int k) (.int m) = some (.bool (op k m)) := rfl
@[simp] theorem eqP_s (a b : Str) : eqP (.str a) (.str b) = some (.bool (sEq a b)) := by
  have h : eqD (.str a) (.str b) = some (sEq a b) := rfl
  unfold eqP
  rw [h, Option.map_some]
@[simp] theorem eqP_i : eqP (.int k) (.int m) = some (.bool (decide (k = m))) := rfl
@[simp] theorem eqP_b (a b : Bool) : eqP (.bool a) (.bool b) = some (.bool (a == b)) := rfl
@[simp] theorem neP_s (a b : Str) : neP (.str a) (.str b) = some (.bool (!sEq a b)) := by
  have h : eqD (.str a) (.str b) = some (sEq a b) := rfl
  unfold neP
  rw [h, Option.map_some]
@[simp] theorem neP_i : neP (.int k) (.int m) = some (.bool (!decide (k = m))) := rfl
@[simp] theorem neP_b (a b : Bool) : neP (.bool a) (.bool b) = some (.bool (!(a == b))) := rfl
@[simp] theorem ixD_l : ixD (.list xs) (.int k) = atI xs k := rfl
@[simp] theorem ixD_t : ixD (.tuple xs) (.int k) = atI xs k := rfl
@[simp] theorem slD_l (l u) : slD l u (.list xs) = some (.list (cutL xs l u)) := rfl
@[simp] theorem lenD_l : lenD (.list xs) = some (.int xs.length) := rfl
@[simp] theorem lenD_t : lenD (.tuple xs) = some (.int xs.length) := rfl
@[simp] theorem listD_l : listD (.list xs) = some (.list xs) := rfl
@[simp] theorem listD_t : listD (.tuple xs) = some (.list xs) := rfl
@[simp] theorem intD_i : intD (.int k) = some (.int k) := rfl
@[simp] theorem intD_b : intD (.bool b) = some (.int (if b then 1 else 0)) := rfl
@[simp] theorem revD_l : revD (.list xs) = some (.list xs.reverse) := rfl
@[simp] theorem negD_i : negD (.int k) = some (.int (-k)) := rfl
@[simp] theorem anyD_m (bs : List Bool) : anyD (.list (bs.map .bool)) = some (.bool (bs.any id)) := by show (boolsD _).map _ = _; rw [boolsD_map]; rfl
@[simp] theorem allD_m (bs : List Bool) : allD (.list (bs.map .bool)) = some (.bool (bs.all id)) := by show (boolsD _).map _ = _; rw [boolsD_map]; rfl
@[simp] theorem atI_0 {α : Type} (a : α) (r : List α) : atI (a :: r) 0 = some a := by simp [atI, ixN]
@[simp] theorem atI_1 {α : Type} (a c : α) (r : List α) : atI (a :: c :: r) 1 = some c := by
  have e : ixN (a :: c :: r).length 1 = some 1 := by
    unfold ixN
    rw [if_pos (by omega), if_pos (by simp only [List.length_cons]; omega)]
    rfl
  simp only [atI, e, Option.bind_some]
  rfl
@[simp] theorem atI_2 {α : Type} (a c d : α) (r : List α) : atI (a :: c :: d :: r) 2 = some d := by
  have e : ixN (a :: c :: d :: r).length 2 = some 2 := by
    unfold ixN
    rw [if_pos (by omega), if_pos (by simp only [List.length_cons]; omega)]
    rfl
  simp only [atI, e, Option.bind_some]
  rfl
end
section
variable {ρ : Rho} {i j n : Nat} {f g h : Rho → Option PyData} {ft gt : Rho → Option Bool} {fs : Rho → Option (List PyData)} {G G' : Rho → Option Out} {d x y : PyData} {xs ys : List PyData} {b : Bool} {k m : Int}
theorem lstO_some (h : xs.length ≤ 100000) : lstO (some xs) = some (.list xs) := if_pos h
theorem tupO_some (h : xs.length ≤ 100000) : tupO (some xs) = some (.tuple xs) := if_pos h
theorem lcO_some {bd t f ρ} (h : xs.length ≤ 100000) : lcO bd t f ρ (some xs) = (lcGo bd t f ρ xs).map .list := if_pos h
theorem appO_some {o : Option Addr} (h : xs.length < 100000) : appO i ρ (some (some (.own o xs))) (some y) = some (.nx (ρ.set i (some (.own o (xs ++ [y]))))) := if_pos h
theorem while_t (h : ft ρ = some true) : whileGo ft G (n + 1) ρ = whO ft G n (G ρ) := by
  rw [whileGo, h]
  simp only [Option.bind_some, if_pos]
  unfold whO
  cases G ρ with
  | none => rfl
  | some o => cases o <;> rfl
theorem while_f (h : ft ρ = some false) : whileGo ft G (n + 1) ρ = some (.nx ρ) := by
  rw [whileGo, h]; rfl
theorem addD_l (h : xs.length + ys.length ≤ 100000) : addD (.list xs) (.list ys) = some (.list (xs ++ ys)) := if_pos h
theorem addD_s {a b : Str} (h : a.length + b.length ≤ 100000) : addD (.str a) (.str b) = some (.str (a ++ b)) := if_pos h
theorem modD_i (h : 0 < m) : modD (.int k) (.int m) = some (.int (k % m)) := if_pos h
theorem fdivD_i (h : 0 < m ∧ m < 1073741824) : fdivD (.int k) (.int m) = some (.int (k / m)) := if_pos h
theorem mulD_i (h : (-(2 ^ 64) < k ∧ k < 2 ^ 64) ∨ (-(2 ^ 64) < m ∧ m < 2 ^ 64)) : mulD (.int k) (.int m) = some (.int (k * m)) := if_pos h
theorem range1D_n {m : Nat} (h : m ≤ 1000000) : range1D (.int m) = some (intsFrom 0 m) := by
  unfold range1D
  simp only
  rw [if_pos (by omega)]
  simp
end
/-- a comprehension over a list, by a function -/
theorem lc_map {bd : PyData → Rho → Option Rho} {t : Rho → Option Bool} {f : Rho → Option PyData} {ρ : Rho} {α : Type} (e : α → PyData) (h : α → PyData) : ∀ xs : List α, (∀ x ∈ xs, ∃ ρ1, bd (e x) ρ = some ρ1 ∧ t ρ1 = some true ∧ f ρ1 = some (h x)) → lcGo bd t f ρ (xs.map e) = some (xs.map h)
  | [], _ => rfl
  | x :: xs, q => by
    obtain ⟨ρ1, e1, e2, e3⟩ := q x (by simp)
    rw [List.map_cons, lcGo_c, e1, lcB_some, e2, e3, lc_map e h xs fun y hy => q y (by simp [hy])]
    rfl
end Dn

namespace Dn
open PySem L2
/-! the ten words are ten -/
@[simp] theorem w_mark_yes : sEq "mark" "yes" = false := sEq_ne (by decide +kernel)
@[simp] theorem v_mark_yes : (Str.ofString "mark" = Str.ofString "yes") = False := eq_false (by decide +kernel)
@[simp] theorem w_mark_not : sEq "mark" "not" = false := sEq_ne (by decide +kernel)
@[simp] theorem v_mark_not : (Str.ofString "mark" = Str.ofString "not") = False := eq_false (by decide +kernel)
@[simp] theorem w_mark_and : sEq "mark" "and" = false := sEq_ne (by decide +kernel)
@[simp] theorem v_mark_and : (Str.ofString "mark" = Str.ofString "and") = False := eq_false (by decide +kernel)
@[simp] theorem w_mark_or : sEq "mark" "or" = false := sEq_ne (by decide +kernel)
@[simp] theorem v_mark_or : (Str.ofString "mark" = Str.ofString "or") = False := eq_false (by decide +kernel)
@[simp] theorem w_mark_next : sEq "mark" "next" = false := sEq_ne (by decide +kernel)
@[simp] theorem v_mark_next : (Str.ofString "mark" = Str.ofString "next") = False := eq_false (by decide +kernel)
@[simp] theorem w_mark_until : sEq "mark" "until" = false := sEq_ne (by decide +kernel)
@[simp] theorem v_mark_until : (Str.ofString "mark" = Str.ofString "until") = False := eq_false (by decide +kernel)
@[simp] theorem w_mark_within : sEq "mark" "within" = false := sEq_ne (by decide +kernel)
@[simp] theorem v_mark_within : (Str.ofString "mark" = Str.ofString "within") = False := eq_false (by decide +kernel)
@[simp] theorem w_mark_before : sEq "mark" "before" = false := sEq_ne (by decide +kernel)
@[simp] theorem v_mark_before : (Str.ofString "mark" = Str.ofString "before") = False := eq_false (by decide +kernel)
@[simp] theorem w_mark_since : sEq "mark" "since" = false := sEq_ne (by decide +kernel)
@[simp] theorem v_mark_since : (Str.ofString "mark" = Str.ofString "since") = False := eq_false (by decide +kernel)
@[simp] theorem w_yes_mark : sEq "yes" "mark" = false := sEq_ne (by decide +kernel)
@[simp] theorem v_yes_mark : (Str.ofString "yes" = Str.ofString "mark") = False := eq_false (by decide +kernel)
@[simp] theorem w_yes_not : sEq "yes" "not" = false := sEq_ne (by decide +kernel)
@[simp] theorem v_yes_not : (Str.ofString "yes" = Str.ofString "not") = False := eq_false (by decide +kernel)
@[simp] theorem w_yes_and : sEq "yes" "and" = false := sEq_ne (by decide +kernel)
@[simp] theorem v_yes_and : (Str.ofString "yes" = Str.ofString "and") = False := eq_false (by decide +kernel)
@[simp] theorem w_yes_or : sEq "yes" "or" = false := sEq_ne (by decide +kernel)
@[simp] theorem v_yes_or : (Str.ofString "yes" = Str.ofString "or") = False := eq_false (by decide +kernel)
@[simp] theorem w_yes_next : sEq "yes" "next" = false := sEq_ne (by decide +kernel)
@[simp] theorem v_yes_next : (Str.ofString "yes" = Str.ofString "next") = False := eq_false (by decide +kernel)
@[simp] theorem w_yes_until : sEq "yes" "until" = false := sEq_ne (by decide +kernel)
@[simp] theorem v_yes_until : (Str.ofString "yes" = Str.ofString "until") = False := eq_false (by decide +kernel)
@[simp] theorem w_yes_within : sEq "yes" "within" = false := sEq_ne (by decide +kernel)
@[simp] theorem v_yes_within : (Str.ofString "yes" = Str.ofString "within") = False := eq_false (by decide +kernel)
@[simp] theorem w_yes_before : sEq "yes" "before" = false := sEq_ne (by decide +kernel)
@[simp] theorem v_yes_before : (Str.ofString "yes" = Str.ofString "before") = False := eq_false (by decide +kernel)
@[simp] theorem w_yes_since : sEq "yes" "since" = false := sEq_ne (by decide +kernel)
@[simp] theorem v_yes_since : (Str.ofString "yes" = Str.ofString "since") = False := eq_false (by decide +kernel)
@[simp] theorem w_not_mark : sEq "not" "mark" = false := sEq_ne (by decide +kernel)
@[simp] theorem v_not_mark : (Str.ofString "not" = Str.ofString "mark") = False := eq_false (by decide +kernel)
@[simp] theorem w_not_yes : sEq "not" "yes" = false := sEq_ne (by decide +kernel)
@[simp] theorem v_not_yes : (Str.ofString "not" = Str.ofString "yes") = False := eq_false (by decide +kernel)
@[simp] theorem w_not_and : sEq "not" "and" = false := sEq_ne (by decide +kernel)
@[simp] theorem v_not_and : (Str.ofString "not" = Str.ofString "and") = False := eq_false (by decide +kernel)
@[simp] theorem w_not_or : sEq "not" "or" = false := sEq_ne (by decide +kernel)
@[simp] theorem v_not_or : (Str.ofString "not" = Str.ofString "or") = False := eq_false (by decide +kernel)
@[simp] theorem w_not_next : sEq "not" "next" = false := sEq_ne (by decide +kernel)
@[simp] theorem v_not_next : (Str.ofString "not" = Str.ofString "next") = False := eq_false (by decide +kernel)
@[simp] theorem w_not_until : sEq "not" "until" = false := sEq_ne (by decide +kernel)
@[simp] theorem v_not_until : (Str.ofString "not" = Str.ofString "until") = False := eq_false (by decide +kernel)
@[simp] theorem w_not_within : sEq "not" "within" = false := sEq_ne (by decide +kernel)
@[simp] theorem v_not_within : (Str.ofString "not" = Str.ofString "within") = False := eq_false (by decide +kernel)
@[simp] theorem w_not_before : sEq "not" "before" = false := sEq_ne (by decide +kernel)
@[simp] theorem v_not_before : (Str.ofString "not" = Str.ofString "before") = False := eq_false (by decide +kernel)
@[simp] theorem w_not_since : sEq "not" "since" = false := sEq_ne (by decide +kernel)
@[simp] theorem v_not_since : (Str.ofString "not" = Str.ofString "since") = False := eq_false (by decide +kernel)
@[simp] theorem w_and_mark : sEq "and" "mark" = false := sEq_ne (by decide +kernel)
@[simp] theorem v_and_mark : (Str.ofString "and" = Str.ofString "mark") = False := eq_false (by decide +kernel)
@[simp] theorem w_and_yes : sEq "and" "yes" = false := sEq_ne (by decide +kernel)
@[simp] theorem v_and_yes : (Str.ofString "and" = Str.ofString "yes") = False := eq_false (by decide +kernel)
@[simp] theorem w_and_not : sEq "and" "not" = false := sEq_ne (by decide +kernel)
@[simp] theorem v_and_not : (Str.ofString "and" = Str.ofString "not") = False := eq_false (by decide +kernel)
@[simp] theorem w_and_or : sEq "and" "or" = false := sEq_ne (by decide +kernel)
@[simp] theorem v_and_or : (Str.ofString "and" = Str.ofString "or") = False := eq_false (by decide +kernel)
@[simp] theorem w_and_next : sEq "and" "next" = false := sEq_ne (by decide +kernel)
@[simp] theorem v_and_next : (Str.ofString "and" = Str.ofString "next") = False := eq_false (by decide +kernel)
@[simp] theorem w_and_until : sEq "and" "until" = false := sEq_ne (by decide +kernel)
@[simp] theorem v_and_until : (Str.ofString "and" = Str.ofString "until") = False := eq_false (by decide +kernel)
@[simp] theorem w_and_within : sEq "and" "within" = false := sEq_ne (by decide +kernel)
@[simp] theorem v_and_within : (Str.ofString "and" = Str.ofString "within") = False := eq_false (by decide +kernel)
@[simp] theorem w_and_before : sEq "and" "before" = false := sEq_ne (by decide +kernel)
@[simp] theorem v_and_before : (Str.ofString "and" = Str.ofString "before") = False := eq_false (by decide +kernel)
@[simp] theorem w_and_since : sEq "and" "since" = false := sEq_ne (by decide +kernel)
@[simp] theorem v_and_since : (Str.ofString "and" = Str.ofString "since") = False := eq_false (by decide +kernel)
@[simp] theorem w_or_mark : sEq "or" "mark" = false := sEq_ne (by decide +kernel)
@[simp] theorem v_or_mark : (Str.ofString "or" = Str.ofString "mark") = False := eq_false (by decide +kernel)
@[simp] theorem w_or_yes : sEq "or" "yes" = false := sEq_ne (by decide +kernel)
@[simp] theorem v_or_yes : (Str.ofString "or" = Str.ofString "yes") = False := eq_false (by decide +kernel)
@[simp] theorem w_or_not : sEq "or" "not" = false := sEq_ne (by decide +kernel)
@[simp] theorem v_or_not : (Str.ofString "or" = Str.ofString "not") = False := eq_false (by decide +kernel)
@[simp] theorem w_or_and : sEq "or" "and" = false := sEq_ne (by decide +kernel)
@[simp] theorem v_or_and : (Str.ofString "or" = Str.ofString "and") = False := eq_false (by decide +kernel)
@[simp] theorem w_or_next : sEq "or" "next" = false := sEq_ne (by decide +kernel)
@[simp] theorem v_or_next : (Str.ofString "or" = Str.ofString "next") = False := eq_false (by decide +kernel)
@[simp] theorem w_or_until : sEq "or" "until" = false := sEq_ne (by decide +kernel)
@[simp] theorem v_or_until : (Str.ofString "or" = Str.ofString "until") = False := eq_false (by decide +kernel)
@[simp] theorem w_or_within : sEq "or" "within" = false := sEq_ne (by decide +kernel)
@[simp] theorem v_or_within : (Str.ofString "or" = Str.ofString "within") = False := eq_false (by decide +kernel)
@[simp] theorem w_or_before : sEq "or" "before" = false := sEq_ne (by decide +kernel)
@[simp] theorem v_or_before : (Str.ofString "or" = Str.ofString "before") = False := eq_false (by decide +kernel)
@[simp] theorem w_or_since : sEq "or" "since" = false := sEq_ne (by decide +kernel)
@[simp] theorem v_or_since : (Str.ofString "or" = Str.ofString "since") = False := eq_false (by decide +kernel)
@[simp] theorem w_next_mark : sEq "next" "mark" = false := sEq_ne (by decide +kernel)
@[simp] theorem v_next_mark : (Str.ofString "next" = Str.ofString "mark") = False := eq_false (by decide +kernel)
@[simp] theorem w_next_yes : sEq "next" "yes" = false := sEq_ne (by decide +kernel)
@[simp] theorem v_next_yes : (Str.ofString "next" = Str.ofString "yes") = False := eq_false (by decide +kernel)
@[simp] theorem w_next_not : sEq "next" "not" = false := sEq_ne (by decide +kernel)
@[simp] theorem v_next_not : (Str.ofString "next" = Str.ofString "not") = False := eq_false (by decide +kernel)
@[simp] theorem w_next_and : sEq "next" "and" = false := sEq_ne (by decide +kernel)
@[simp] theorem v_next_and : (Str.ofString "next" = Str.ofString "and") = False := eq_false (by decide +kernel)
@[simp] theorem w_next_or : sEq "next" "or" = false := sEq_ne (by decide +kernel)
@[simp] theorem v_next_or : (Str.ofString "next" = Str.ofString "or") = False := eq_false (by decide +kernel)
@[simp] theorem w_next_until : sEq "next" "until" = false := sEq_ne (by decide +kernel)
@[simp] theorem v_next_until : (Str.ofString "next" = Str.ofString "until") = False := eq_false (by decide +kernel)
@[simp] theorem w_next_within : sEq "next" "within" = false := sEq_ne (by decide +kernel)
@[simp] theorem v_next_within : (Str.ofString "next" = Str.ofString "within") = False := eq_false (by decide +kernel)
@[simp] theorem w_next_before : sEq "next" "before" = false := sEq_ne (by decide +kernel)
@[simp] theorem v_next_before : (Str.ofString "next" = Str.ofString "before") = False := eq_false (by decide +kernel)
@[simp] theorem w_next_since : sEq "next" "since" = false := sEq_ne (by decide +kernel)
@[simp] theorem v_next_since : (Str.ofString "next" = Str.ofString "since") = False := eq_false (by decide +kernel)
@[simp] theorem w_until_mark : sEq "until" "mark" = false := sEq_ne (by decide +kernel)
@[simp] theorem v_until_mark : (Str.ofString "until" = Str.ofString "mark") = False := eq_false (by decide +kernel)
@[simp] theorem w_until_yes : sEq "until" "yes" = false := sEq_ne (by decide +kernel)
@[simp] theorem v_until_yes : (Str.ofString "until" = Str.ofString "yes") = False := eq_false (by decide +kernel)
@[simp] theorem w_until_not : sEq "until" "not" = false := sEq_ne (by decide +kernel)
@[simp] theorem v_until_not : (Str.ofString "until" = Str.ofString "not") = False := eq_false (by decide +kernel)
@[simp] theorem w_until_and : sEq "until" "and" = false := sEq_ne (by decide +kernel)
@[simp] theorem v_until_and : (Str.ofString "until" = Str.ofString "and") = False := eq_false (by decide +kernel)
@[simp] theorem w_until_or : sEq "until" "or" = false := sEq_ne (by decide +kernel)
@[simp] theorem v_until_or : (Str.ofString "until" = Str.ofString "or") = False := eq_false (by decide +kernel)
@[simp] theorem w_until_next : sEq "until" "next" = false := sEq_ne (by decide +kernel)
@[simp] theorem v_until_next : (Str.ofString "until" = Str.ofString "next") = False := eq_false (by decide +kernel)
@[simp] theorem w_until_within : sEq "until" "within" = false := sEq_ne (by decide +kernel)
@[simp] theorem v_until_within : (Str.ofString "until" = Str.ofString "within") = False := eq_false (by decide +kernel)
@[simp] theorem w_until_before : sEq "until" "before" = false := sEq_ne (by decide +kernel)
@[simp] theorem v_until_before : (Str.ofString "until" = Str.ofString "before") = False := eq_false (by decide +kernel)
@[simp] theorem w_until_since : sEq "until" "since" = false := sEq_ne (by decide +kernel)
@[simp] theorem v_until_since : (Str.ofString "until" = Str.ofString "since") = False := eq_false (by decide +kernel)
@[simp] theorem w_within_mark : sEq "within" "mark" = false := sEq_ne (by decide +kernel)
@[simp] theorem v_within_mark : (Str.ofString "within" = Str.ofString "mark") = False := eq_false (by decide +kernel)
@[simp] theorem w_within_yes : sEq "within" "yes" = false := sEq_ne (by decide +kernel)
@[simp] theorem v_within_yes : (Str.ofString "within" = Str.ofString "yes") = False := eq_false (by decide +kernel)
@[simp] theorem w_within_not : sEq "within" "not" = false := sEq_ne (by decide +kernel)
@[simp] theorem v_within_not : (Str.ofString "within" = Str.ofString "not") = False := eq_false (by decide +kernel)
@[simp] theorem w_within_and : sEq "within" "and" = false := sEq_ne (by decide +kernel)
@[simp] theorem v_within_and : (Str.ofString "within" = Str.ofString "and") = False := eq_false (by decide +kernel)
@[simp] theorem w_within_or : sEq "within" "or" = false := sEq_ne (by decide +kernel)
@[simp] theorem v_within_or : (Str.ofString "within" = Str.ofString "or") = False := eq_false (by decide +kernel)
@[simp] theorem w_within_next : sEq "within" "next" = false := sEq_ne (by decide +kernel)
@[simp] theorem v_within_next : (Str.ofString "within" = Str.ofString "next") = False := eq_false (by decide +kernel)
@[simp] theorem w_within_until : sEq "within" "until" = false := sEq_ne (by decide +kernel)
@[simp] theorem v_within_until : (Str.ofString "within" = Str.ofString "until") = False := eq_false (by decide +kernel)
@[simp] theorem w_within_before : sEq "within" "before" = false := sEq_ne (by decide +kernel)
@[simp] theorem v_within_before : (Str.ofString "within" = Str.ofString "before") = False := eq_false (by decide +kernel)
@[simp] theorem w_within_since : sEq "within" "since" = false := sEq_ne (by decide +kernel)
@[simp] theorem v_within_since : (Str.ofString "within" = Str.ofString "since") = False := eq_false (by decide +kernel)
@[simp] theorem w_before_mark : sEq "before" "mark" = false := sEq_ne (by decide +kernel)
@[simp] theorem v_before_mark : (Str.ofString "before" = Str.ofString "mark") = False := eq_false (by decide +kernel)
@[simp] theorem w_before_yes : sEq "before" "yes" = false := sEq_ne (by decide +kernel)
@[simp] theorem v_before_yes : (Str.ofString "before" = Str.ofString "yes") = False := eq_false (by decide +kernel)
@[simp] theorem w_before_not : sEq "before" "not" = false := sEq_ne (by decide +kernel)
@[simp] theorem v_before_not : (Str.ofString "before" = Str.ofString "not") = False := eq_false (by decide +kernel)
@[simp] theorem w_before_and : sEq "before" "and" = false := sEq_ne (by decide +kernel)
@[simp] theorem v_before_and : (Str.ofString "before" = Str.ofString "and") = False := eq_false (by decide +kernel)
@[simp] theorem w_before_or : sEq "before" "or" = false := sEq_ne (by decide +kernel)
@[simp] theorem v_before_or : (Str.ofString "before" = Str.ofString "or") = False := eq_false (by decide +kernel)
@[simp] theorem w_before_next : sEq "before" "next" = false := sEq_ne (by decide +kernel)
@[simp] theorem v_before_next : (Str.ofString "before" = Str.ofString "next") = False := eq_false (by decide +kernel)
@[simp] theorem w_before_until : sEq "before" "until" = false := sEq_ne (by decide +kernel)
@[simp] theorem v_before_until : (Str.ofString "before" = Str.ofString "until") = False := eq_false (by decide +kernel)
@[simp] theorem w_before_within : sEq "before" "within" = false := sEq_ne (by decide +kernel)
@[simp] theorem v_before_within : (Str.ofString "before" = Str.ofString "within") = False := eq_false (by decide +kernel)
@[simp] theorem w_before_since : sEq "before" "since" = false := sEq_ne (by decide +kernel)
@[simp] theorem v_before_since : (Str.ofString "before" = Str.ofString "since") = False := eq_false (by decide +kernel)
@[simp] theorem w_since_mark : sEq "since" "mark" = false := sEq_ne (by decide +kernel)
@[simp] theorem v_since_mark : (Str.ofString "since" = Str.ofString "mark") = False := eq_false (by decide +kernel)
@[simp] theorem w_since_yes : sEq "since" "yes" = false := sEq_ne (by decide +kernel)
@[simp] theorem v_since_yes : (Str.ofString "since" = Str.ofString "yes") = False := eq_false (by decide +kernel)
@[simp] theorem w_since_not : sEq "since" "not" = false := sEq_ne (by decide +kernel)
@[simp] theorem v_since_not : (Str.ofString "since" = Str.ofString "not") = False := eq_false (by decide +kernel)
@[simp] theorem w_since_and : sEq "since" "and" = false := sEq_ne (by decide +kernel)
@[simp] theorem v_since_and : (Str.ofString "since" = Str.ofString "and") = False := eq_false (by decide +kernel)
@[simp] theorem w_since_or : sEq "since" "or" = false := sEq_ne (by decide +kernel)
@[simp] theorem v_since_or : (Str.ofString "since" = Str.ofString "or") = False := eq_false (by decide +kernel)
@[simp] theorem w_since_next : sEq "since" "next" = false := sEq_ne (by decide +kernel)
@[simp] theorem v_since_next : (Str.ofString "since" = Str.ofString "next") = False := eq_false (by decide +kernel)
@[simp] theorem w_since_until : sEq "since" "until" = false := sEq_ne (by decide +kernel)
@[simp] theorem v_since_until : (Str.ofString "since" = Str.ofString "until") = False := eq_false (by decide +kernel)
@[simp] theorem w_since_within : sEq "since" "within" = false := sEq_ne (by decide +kernel)
@[simp] theorem v_since_within : (Str.ofString "since" = Str.ofString "within") = False := eq_false (by decide +kernel)
@[simp] theorem w_since_before : sEq "since" "before" = false := sEq_ne (by decide +kernel)
@[simp] theorem v_since_before : (Str.ofString "since" = Str.ofString "before") = False := eq_false (by decide +kernel)
end Dn

namespace My
open PySem L2 Dn
def top (i : Nat) : Stmt := PySem.Challenge.pw_soonsaid_k04_what_it_means.main.body.getD i (.Pass ⟨0, 0, 0, 0⟩)
structure Bl (mg : Str → Option Value) : Prop where
  any : mg "any" = none
  bool : mg "bool" = none
  int : mg "int" = none
  isinstance : mg "isinstance" = none
  len : mg "len" = none
  list : mg "list" = none
  range : mg "range" = none
  tuple : mg "tuple" = none
  zip : mg "zip" = none
section
variable {P : Program} {w : World} {K : PySem.W.Frag} {mg : Str → Option Value} {base : Heap}
abbrev sparts_of : Stmt := top 1
abbrev Nparts_of : List Str := ["statement", "part"]
theorem scparts_of : FnScope Nparts_of ["statement"] (defScope sparts_of) := ⟨rfl, rfl, rfl, by decide +kernel, rfl, by decide +kernel, by decide +kernel⟩
def gparts_of : Rho → Option Out := (gRet (fLc (fSeq (fSl (fV 0) (fO (fC (.int 1))) fO0)) (b1 1) (fB (f1 (isiD "tuple") (fV 1))) (fV 1) [1]))
theorem okparts_of {k : Nat} (hB : Bl mg) (D : Df K mg "parts_of" sparts_of ["statement"])  : Kn P w K mg base (k + 1) 1 "parts_of" (fnD 2 (gparts_of )) := by
  refine kn_of (P := P) (w := w) (base := base) (N := Nparts_of) (ps := ["statement"]) (g := gparts_of ) D scparts_of fun f cdv A outer s H E hr => ?_
  exact (psd_one (psd_ret (pd_lc gd_1 (by decide) rfl scparts_of.nd (pdi_seq (pd_sl (pd_v (pv 0)) (pdo_some pd_int) pdo_none)) (blkOk_by (N := Nparts_of) (sc := defScope sparts_of) (own := [("part", 1)]) (by decide +kernel)) (fun _ _ _ _ _ => (pg_name (i := 1) scparts_of.nd rfl (by first | exact Or.inl rfl | exact Or.inr rfl))) (fun _ _ _ _ _ => pdts_one (pdt_val (pd_isi rfl hB.isinstance (pd_v (pv 1)) (pe_bltn rfl hB.tuple (by decide +kernel) rfl)))) (fun _ _ _ _ _ => (pd_v (pv 1))))))
abbrev ssince : Stmt := top 7
abbrev Nsince : List Str := ["first", "second", "row", "held", "one", "other"]
theorem scsince : FnScope Nsince ["first", "second"] (defScope ssince) := ⟨rfl, rfl, rfl, by decide +kernel, rfl, by decide +kernel, by decide +kernel⟩
def gsince : Rho → Option Out := (gSeq (gOwn 2 fNil) (gSeq (gSet 3 (fC (.bool false))) (gSeq (gFor (fZ (fV 0) (fV 1)) (b2 4 5) (gSeq (gSet 3 (fOr (fV 5) (fAnd (fV 4) (fV 3)))) (gApp 2 (fV 3)))) (fun ρ => (gRet (fV 2)) (frz 2 ρ)))))
theorem oksince {k : Nat} (hB : Bl mg) (D : Df K mg "_since" ssince ["first", "second"])  : Kn P w K mg base (k + 1) 2 "_since" (fnD 6 (gsince )) := by
  refine kn_of (P := P) (w := w) (base := base) (N := Nsince) (ps := ["first", "second"]) (g := gsince ) D scsince fun f cdv A outer s H E hr => ?_
  exact (psd_cons (psd_own (ps_set (i := 2) scsince.nd rfl (by first | exact Or.inl rfl | exact Or.inr rfl) (pe_lst pda_nil))) (psd_cons (psd_asg (ps_set (i := 3) scsince.nd rfl (by first | exact Or.inl rfl | exact Or.inr rfl) pd_bl)) (psd_cons (psd_for gd_2 PassesOwn.never rfl (pdi_zip (by rfl) hB.zip (pd_v (pv 0)) (pd_v (pv 1))) (pg_tup rfl (pgs_cons (pg_name (i := 4) scsince.nd rfl (by first | exact Or.inl rfl | exact Or.inr rfl)) (pgs_cons (pg_name (i := 5) scsince.nd rfl (by first | exact Or.inl rfl | exact Or.inr rfl)) pgs_nil))) (psd_cons (psd_asg (ps_set (i := 3) scsince.nd rfl (by first | exact Or.inl rfl | exact Or.inr rfl) (pd_or (pd_v (pv 5)) (pd_one (pd_and (pd_v (pv 4)) (pd_one (pd_v (pv 3)))))))) (psd_one (psd_app (ps_expr (pe_bm PySem.F.plainAttrs_list PySem.F.slot_list_append PySem.F.type_list_append mt_append (pv 2) (pa_cons (pd_v (pv 3)) pa_nil))))))) (psd_one (psd_frz 2 (psd_ret (pd_v (pv 2))))))))
abbrev srow_of_two : Stmt := top 6
abbrev Nrow_of_two : List Str := ["word", "first", "second", "one", "other"]
theorem scrow_of_two : FnScope Nrow_of_two ["word", "first", "second"] (defScope srow_of_two) := ⟨rfl, rfl, rfl, by decide +kernel, rfl, by decide +kernel, by decide +kernel⟩
def grow_of_two (Fsince : List PyData → Option PyData) : Rho → Option Out := (gSeq (gIf (fB (f2 eqP (fV 0) (fC (.str "and")))) (gRet (fLc (fZ (fV 1) (fV 2)) (b2 3 4) tYesD (fAnd (fV 3) (fV 4)) [3, 4])) gNx) (gSeq (gIf (fB (f2 eqP (fV 0) (fC (.str "or")))) (gRet (fLc (fZ (fV 1) (fV 2)) (b2 3 4) tYesD (fOr (fV 3) (fV 4)) [3, 4])) gNx) (gSeq (gIf (fB (f2 eqP (fV 0) (fC (.str "since")))) (gRet (fCa 2 Fsince (fCons (fV 1) (fCons (fV 2) fNil)))) gNx) (gRet (f1 revD (fCa 2 Fsince (fCons (f1 revD (fV 1)) (fCons (f1 revD (fV 2)) fNil))))))))
theorem okrow_of_two {k : Nat} {Fsince : List PyData → Option PyData} (hB : Bl mg) (D : Df K mg "_row_of_two" srow_of_two ["word", "first", "second"]) (csince : Kn P w K mg base k 2 "_since" Fsince) : Kn P w K mg base (k + 1) 3 "_row_of_two" (fnD 5 (grow_of_two Fsince)) := by
  refine kn_of (P := P) (w := w) (base := base) (N := Nrow_of_two) (ps := ["word", "first", "second"]) (g := grow_of_two Fsince) D scrow_of_two fun f cdv A outer s H E hr => ?_
  exact (psd_cons (psd_if (pdt_cmp (op_eqA hr.units) rd_eq (pd_v (pv 0)) pd_str (nomark _)) (psd_one (psd_ret (pd_lc gd_2 (by decide) rfl scrow_of_two.nd (pdi_zip (by rfl) hB.zip (pd_v (pv 1)) (pd_v (pv 2))) (blkOk_by (N := Nrow_of_two) (sc := defScope srow_of_two) (own := [("one", 3), ("other", 4)]) (by decide +kernel)) (fun _ _ _ _ _ => (pg_tup rfl (pgs_cons (pg_name (i := 3) scrow_of_two.nd rfl (by first | exact Or.inl rfl | exact Or.inr rfl)) (pgs_cons (pg_name (i := 4) scrow_of_two.nd rfl (by first | exact Or.inl rfl | exact Or.inr rfl)) pgs_nil)))) (fun _ _ _ _ _ => pdts_nil) (fun _ _ _ _ _ => (pd_and (pd_v (pv 3)) (pd_one (pd_v (pv 4)))))))) psd_nil) (psd_cons (psd_if (pdt_cmp (op_eqA hr.units) rd_eq (pd_v (pv 0)) pd_str (nomark _)) (psd_one (psd_ret (pd_lc gd_2 (by decide) rfl scrow_of_two.nd (pdi_zip (by rfl) hB.zip (pd_v (pv 1)) (pd_v (pv 2))) (blkOk_by (N := Nrow_of_two) (sc := defScope srow_of_two) (own := [("one", 3), ("other", 4)]) (by decide +kernel)) (fun _ _ _ _ _ => (pg_tup rfl (pgs_cons (pg_name (i := 3) scrow_of_two.nd rfl (by first | exact Or.inl rfl | exact Or.inr rfl)) (pgs_cons (pg_name (i := 4) scrow_of_two.nd rfl (by first | exact Or.inl rfl | exact Or.inr rfl)) pgs_nil)))) (fun _ _ _ _ _ => pdts_nil) (fun _ _ _ _ _ => (pd_or (pd_v (pv 3)) (pd_one (pd_v (pv 4)))))))) psd_nil) (psd_cons (psd_if (pdt_cmp (op_eqA hr.units) rd_eq (pd_v (pv 0)) pd_str (nomark _)) (psd_one (psd_ret (pd_kn csince hr (pda_cons (pd_v (pv 1)) (pda_cons (pd_v (pv 2)) pda_nil))))) psd_nil) (psd_one (psd_ret (pd_rev (pd_kn csince hr (pda_cons (pd_rev (pd_v (pv 1))) (pda_cons (pd_rev (pd_v (pv 2))) pda_nil)))))))))
abbrev srow_of_one : Stmt := top 5
abbrev Nrow_of_one : List Str := ["word", "row", "there"]
theorem scrow_of_one : FnScope Nrow_of_one ["word", "row"] (defScope srow_of_one) := ⟨rfl, rfl, rfl, by decide +kernel, rfl, by decide +kernel, by decide +kernel⟩
def grow_of_one : Rho → Option Out := (gSeq (gIf (fB (f2 eqP (fV 0) (fC (.str "not")))) (gRet (fLc (fSeq (fV 1)) (b1 2) tYesD (fNot (fV 2)) [2])) gNx) (gSeq (gIf (fB (f2 eqP (fV 0) (fC (.str "next")))) (gRet (fSl (f2 addD (fV 1) (fLst (fCons (fC (.bool false)) fNil))) (fO (fC (.int 1))) fO0)) gNx) (gRet (fSl (f2 addD (fLst (fCons (fC (.bool false)) fNil)) (fV 1)) fO0 (fO (f1 negD (fC (.int 1))))))))
theorem okrow_of_one {k : Nat} (hB : Bl mg) (D : Df K mg "_row_of_one" srow_of_one ["word", "row"])  : Kn P w K mg base (k + 1) 2 "_row_of_one" (fnD 3 (grow_of_one )) := by
  refine kn_of (P := P) (w := w) (base := base) (N := Nrow_of_one) (ps := ["word", "row"]) (g := grow_of_one ) D scrow_of_one fun f cdv A outer s H E hr => ?_
  exact (psd_cons (psd_if (pdt_cmp (op_eqA hr.units) rd_eq (pd_v (pv 0)) pd_str (nomark _)) (psd_one (psd_ret (pd_lc gd_1 (by decide) rfl scrow_of_one.nd (pdi_seq (pd_v (pv 1))) (blkOk_by (N := Nrow_of_one) (sc := defScope srow_of_one) (own := [("there", 2)]) (by decide +kernel)) (fun _ _ _ _ _ => (pg_name (i := 2) scrow_of_one.nd rfl (by first | exact Or.inl rfl | exact Or.inr rfl))) (fun _ _ _ _ _ => pdts_nil) (fun _ _ _ _ _ => (pd_not (pd_v (pv 2))))))) psd_nil) (psd_cons (psd_if (pdt_cmp (op_eqA hr.units) rd_eq (pd_v (pv 0)) pd_str (nomark _)) (psd_one (psd_ret (pd_sl (pd_op op_addD rd_add (pd_v (pv 1)) (pd_lst (pda_cons pd_bl pda_nil))) (pdo_some pd_int) pdo_none))) psd_nil) (psd_one (psd_ret (pd_sl (pd_op op_addD rd_add (pd_lst (pda_cons pd_bl pda_nil)) (pd_v (pv 1))) pdo_none (pdo_some (pd_neg pd_int)))))))
abbrev srow_of : Stmt := top 4
abbrev Nrow_of : List Str := ["statement", "run", "word", "mark", "rows", "part", "at"]
theorem scrow_of : FnScope Nrow_of ["statement", "run"] (defScope srow_of) := ⟨rfl, rfl, rfl, by decide +kernel, rfl, by decide +kernel, by decide +kernel⟩
def grow_of (Fparts_of : List PyData → Option PyData) (Frow_of : List PyData → Option PyData) (Frow_of_one : List PyData → Option PyData) (Frow_of_two : List PyData → Option PyData) : Rho → Option Out := (gSeq (gSet 2 (f2 ixD (fV 0) (fC (.int 0)))) (gSeq (gIf (fB (f2 eqP (fV 2) (fC (.str "mark")))) (gRet (fLc (fSeq (fV 1)) (b1 3) tYesD (f2 eqP (fV 3) (f2 ixD (fV 0) (fC (.int 1)))) [3])) gNx) (gSeq (gIf (fB (f2 eqP (fV 2) (fC (.str "yes")))) (gRet (f2 mulD (fLst (fCons (fC (.bool true)) fNil)) (fCl (one1 lenD) (fCons (fV 1) fNil)))) gNx) (gSeq (gSet 4 (fLc (fSeq (fCa 1 Fparts_of (fCons (fV 0) fNil))) (b1 5) tYesD (fCa 2 Frow_of (fCons (fV 5) (fCons (fV 1) fNil))) [5])) (gSeq (gIf (fB (f2 eqP (fV 2) (fC (.str "within")))) (gRet (fLc (fR1 (fCl (one1 lenD) (fCons (fV 1) fNil))) (b1 6) tYesD (fCl (one1 anyD) (fCons (fSl (f2 ixD (fV 4) (fC (.int 0))) (fO (fV 6)) (fO (f2 addD (f2 addD (fV 6) (f2 ixD (fV 0) (fC (.int 1)))) (fC (.int 1))))) fNil)) [6])) gNx) (gSeq (gIf (fB (f2 eqP (fCl (one1 lenD) (fCons (fV 4) fNil)) (fC (.int 1)))) (gRet (fCa 2 Frow_of_one (fCons (fV 2) (fCons (f2 ixD (fV 4) (fC (.int 0))) fNil)))) gNx) (gRet (fCa 3 Frow_of_two (fCons (fV 2) (fCons (f2 ixD (fV 4) (fC (.int 0))) (fCons (f2 ixD (fV 4) (fC (.int 1))) fNil)))))))))))
theorem okrow_of {k : Nat} {Fparts_of : List PyData → Option PyData} {Frow_of : List PyData → Option PyData} {Frow_of_one : List PyData → Option PyData} {Frow_of_two : List PyData → Option PyData} (hB : Bl mg) (D : Df K mg "row_of" srow_of ["statement", "run"]) (cparts_of : Kn P w K mg base k 1 "parts_of" Fparts_of) (crow_of : Kn P w K mg base k 2 "row_of" Frow_of) (crow_of_one : Kn P w K mg base k 2 "_row_of_one" Frow_of_one) (crow_of_two : Kn P w K mg base k 3 "_row_of_two" Frow_of_two) : Kn P w K mg base (k + 1) 2 "row_of" (fnD 7 (grow_of Fparts_of Frow_of Frow_of_one Frow_of_two)) := by
  refine kn_of (P := P) (w := w) (base := base) (N := Nrow_of) (ps := ["statement", "run"]) (g := grow_of Fparts_of Frow_of Frow_of_one Frow_of_two) D scrow_of fun f cdv A outer s H E hr => ?_
  exact (psd_cons (psd_asg (ps_set (i := 2) scrow_of.nd rfl (by first | exact Or.inl rfl | exact Or.inr rfl) (pd_ix (pd_v (pv 0)) pd_int (fun _ _ => rfl)))) (psd_cons (psd_if (pdt_cmp (op_eqA hr.units) rd_eq (pd_v (pv 2)) pd_str (nomark _)) (psd_one (psd_ret (pd_lc gd_1 (by decide) rfl scrow_of.nd (pdi_seq (pd_v (pv 1))) (blkOk_by (N := Nrow_of) (sc := defScope srow_of) (own := [("mark", 3)]) (by decide +kernel)) (fun _ _ _ _ _ => (pg_name (i := 3) scrow_of.nd rfl (by first | exact Or.inl rfl | exact Or.inr rfl))) (fun _ _ _ _ _ => pdts_nil) (fun _ _ _ _ _ => (pd_cmp (op_eqA hr.units) rd_eq (pd_v (pv 3)) (pd_ix (pd_v (pv 0)) pd_int (fun _ _ => rfl)) (nomark _)))))) psd_nil) (psd_cons (psd_if (pdt_cmp (op_eqA hr.units) rd_eq (pd_v (pv 2)) pd_str (nomark _)) (psd_one (psd_ret (pd_op op_mulD rd_mul (pd_lst (pda_cons pd_bl pda_nil)) (pd_bi call_lenD0 rc_len rfl hB.len (by decide +kernel) (pda_cons (pd_v (pv 1)) pda_nil))))) psd_nil) (psd_cons (psd_asg (ps_set (i := 4) scrow_of.nd rfl (by first | exact Or.inl rfl | exact Or.inr rfl) (pd_lc gd_1 (by decide) rfl scrow_of.nd (pdi_seq (pd_kn cparts_of hr (pda_cons (pd_v (pv 0)) pda_nil))) (blkOk_by (N := Nrow_of) (sc := defScope srow_of) (own := [("part", 5)]) (by decide +kernel)) (fun _ _ _ _ _ => (pg_name (i := 5) scrow_of.nd rfl (by first | exact Or.inl rfl | exact Or.inr rfl))) (fun _ _ _ _ _ => pdts_nil) (fun _ _ _ _ _ => (pd_kn crow_of hr (pda_cons (pd_v (pv 5)) (pda_cons (pd_v (pv 1)) pda_nil))))))) (psd_cons (psd_if (pdt_cmp (op_eqA hr.units) rd_eq (pd_v (pv 2)) pd_str (nomark _)) (psd_one (psd_ret (pd_lc gd_1 (by decide) rfl scrow_of.nd (pdi_range1 rfl hB.range (pd_bi call_lenD0 rc_len rfl hB.len (by decide +kernel) (pda_cons (pd_v (pv 1)) pda_nil))) (blkOk_by (N := Nrow_of) (sc := defScope srow_of) (own := [("at", 6)]) (by decide +kernel)) (fun _ _ _ _ _ => (pg_name (i := 6) scrow_of.nd rfl (by first | exact Or.inl rfl | exact Or.inr rfl))) (fun _ _ _ _ _ => pdts_nil) (fun _ _ _ _ _ => (pd_bi (cr_any rfl) rc_any rfl hB.any (by decide +kernel) (pda_cons (pd_sl (pd_ix (pd_v (pv 4)) pd_int (fun _ _ => rfl)) (pdo_some (pd_v (pv 6))) (pdo_some (pd_op op_addD rd_add (pd_op op_addD rd_add (pd_v (pv 6)) (pd_ix (pd_v (pv 0)) pd_int (fun _ _ => rfl))) pd_int))) pda_nil)))))) psd_nil) (psd_cons (psd_if (pdt_cmp (op_eqA hr.units) rd_eq (pd_bi call_lenD0 rc_len rfl hB.len (by decide +kernel) (pda_cons (pd_v (pv 4)) pda_nil)) pd_int (nomark _)) (psd_one (psd_ret (pd_kn crow_of_one hr (pda_cons (pd_v (pv 2)) (pda_cons (pd_ix (pd_v (pv 4)) pd_int (fun _ _ => rfl)) pda_nil))))) psd_nil) (psd_one (psd_ret (pd_kn crow_of_two hr (pda_cons (pd_v (pv 2)) (pda_cons (pd_ix (pd_v (pv 4)) pd_int (fun _ _ => rfl)) (pda_cons (pd_ix (pd_v (pv 4)) pd_int (fun _ _ => rfl)) pda_nil))))))))))))
abbrev sholds : Stmt := top 3
abbrev Nholds : List Str := ["statement", "run", "at"]
theorem scholds : FnScope Nholds ["statement", "run", "at"] (defScope sholds) := ⟨rfl, rfl, rfl, by decide +kernel, rfl, by decide +kernel, by decide +kernel⟩
def gholds (Frow_of : List PyData → Option PyData) : Rho → Option Out := (gRet (f2 ixD (fCa 2 Frow_of (fCons (fV 0) (fCons (fV 1) fNil))) (fV 2)))
theorem okholds {k : Nat} {Frow_of : List PyData → Option PyData} (hB : Bl mg) (D : Df K mg "holds" sholds ["statement", "run", "at"]) (crow_of : Kn P w K mg base k 2 "row_of" Frow_of) : Kn P w K mg base (k + 1) 3 "holds" (fnD 3 (gholds Frow_of)) := by
  refine kn_of (P := P) (w := w) (base := base) (N := Nholds) (ps := ["statement", "run", "at"]) (g := gholds Frow_of) D scholds fun f cdv A outer s H E hr => ?_
  exact (psd_one (psd_ret (pd_ix (pd_kn crow_of hr (pda_cons (pd_v (pv 0)) (pda_cons (pd_v (pv 1)) pda_nil))) (pd_v (pv 2)) (fun _ _ => rfl))))
abbrev sL_cell_at : Stmt := top 9
abbrev NL_cell_at : List Str := ["_law_script", "_law_k"]
theorem scL_cell_at : FnScope NL_cell_at ["_law_script", "_law_k"] (defScope sL_cell_at) := ⟨rfl, rfl, rfl, by decide +kernel, rfl, by decide +kernel, by decide +kernel⟩
def gL_cell_at : Rho → Option Out := (gSeq (gIf (fB (f2 (rb fun i j => decide (i < j)) (fV 1) (fCl (one1 lenD) (fCons (fV 0) fNil)))) (gRet (f2 ixD (fV 0) (fV 1))) gNx) (gRet (fC (.int 0))))
theorem okL_cell_at {k : Nat} (hB : Bl mg) (D : Df K mg "_law_cell_at" sL_cell_at ["_law_script", "_law_k"])  : Kn P w K mg base (k + 1) 2 "_law_cell_at" (fnD 2 (gL_cell_at )) := by
  refine kn_of (P := P) (w := w) (base := base) (N := NL_cell_at) (ps := ["_law_script", "_law_k"]) (g := gL_cell_at ) D scL_cell_at fun f cdv A outer s H E hr => ?_
  exact (psd_cons (psd_if (pdt_cmp op_lt rd_rb (pd_v (pv 1)) (pd_bi call_lenD0 rc_len rfl hB.len (by decide +kernel) (pda_cons (pd_v (pv 0)) pda_nil)) (nomark _)) (psd_one (psd_ret (pd_ix (pd_v (pv 0)) (pd_v (pv 1)) (fun _ _ => rfl)))) psd_nil) (psd_one (psd_ret pd_int)))
abbrev sL_draw : Stmt := top 10
abbrev NL_draw : List Str := ["_law_script", "_law_spot", "_law_k"]
theorem scL_draw : FnScope NL_draw ["_law_script", "_law_spot"] (defScope sL_draw) := ⟨rfl, rfl, rfl, by decide +kernel, rfl, by decide +kernel, by decide +kernel⟩
def gL_draw : Rho → Option Out := (gSeq (gSeti 1 (f2 addD (fIxO 1 (fC (.int 0))) (fC (.int 1))) (fC (.int 0))) (gSeq (gSet 2 (f2 (ri fun i j => i - j) (fIxO 1 (fC (.int 0))) (fC (.int 1)))) (gSeq (gIf (fB (f2 (rb fun i j => decide (i < j)) (fV 2) (fCl (one1 lenD) (fCons (fV 0) fNil)))) (gRet (f2 ixD (fV 0) (fV 2))) gNx) (gSeq (gIf (fAndT (fB (f2 (rb fun i j => decide (j < i)) (fCl (one1 lenD) (fCons (fV 0) fNil)) (fC (.int 4)))) (fB (f2 (rb fun i j => decide (i < j)) (fV 2) (fC (.int 40))))) (gRet (f2 modD (f2 mulD (f2 addD (f2 ixD (fV 0) (f2 modD (fV 2) (fCl (one1 lenD) (fCons (fV 0) fNil)))) (f2 mulD (fC (.int 7919)) (fV 2))) (fC (.int 48271))) (fC (.int 1000003)))) gNx) (gRet (fC (.int 0)))))))
theorem okL_draw {k : Nat} {R : List PyData → List PyData → Option (PyData × List PyData)} (hB : Bl mg) (D : Df K mg "_law_draw" sL_draw ["_law_script", "_law_spot"]) (hF : ∀ a ds xs r, ds.length + 1 = 2 → R ds xs = some r → retC a ((gL_draw ) (startC 3 a ds xs)) = some r)  : KnC P w K mg base (k + 1) 2 "_law_draw" R := by
  refine knC_of (P := P) (w := w) (base := base) (N := NL_draw) (ps := ["_law_script", "_law_spot"]) (g := gL_draw ) D scL_draw hF fun f cdv A outer s H E hr => ?_
  exact (psd_cons (psd_seti (ps_asg (pd_op op_addD rd_add (pd_ixO (pv 1) pd_int (fun _ _ => rfl)) pd_int) (pg_sub (pv 1) pd_int set_list))) (psd_cons (psd_asg (ps_set (i := 2) scL_draw.nd rfl (by first | exact Or.inl rfl | exact Or.inr rfl) (pd_op op_sub rd_sub (pd_ixO (pv 1) pd_int (fun _ _ => rfl)) pd_int))) (psd_cons (psd_if (pdt_cmp op_lt rd_rb (pd_v (pv 2)) (pd_bi call_lenD0 rc_len rfl hB.len (by decide +kernel) (pda_cons (pd_v (pv 0)) pda_nil)) (nomark _)) (psd_one (psd_ret (pd_ix (pd_v (pv 0)) (pd_v (pv 2)) (fun _ _ => rfl)))) psd_nil) (psd_cons (psd_if (pdt_w (pdw_and (pdt_cmp op_gt rd_rb (pd_bi call_lenD0 rc_len rfl hB.len (by decide +kernel) (pda_cons (pd_v (pv 0)) pda_nil)) pd_int (nomark _)) (pdw_and1 (pdt_cmp op_lt rd_rb (pd_v (pv 2)) pd_int (nomark _))))) (psd_one (psd_ret (pd_op op_mod rd_mod (pd_op op_mulD rd_mul (pd_op op_addD rd_add (pd_ix (pd_v (pv 0)) (pd_op op_mod rd_mod (pd_v (pv 2)) (pd_bi call_lenD0 rc_len rfl hB.len (by decide +kernel) (pda_cons (pd_v (pv 0)) pda_nil))) (fun _ _ => rfl)) (pd_op op_mulD rd_mul pd_int (pd_v (pv 2)))) pd_int) pd_int))) psd_nil) (psd_one (psd_ret pd_int))))))
abbrev sL_names : Stmt := top 11
abbrev NL_names : List Str := ["_law_cell", "_law_letters", "_law_rest", "_law_j", "_law_size", "_law_k", "_law_at", "_law_found", "_law_letter"]
theorem scL_names : FnScope NL_names ["_law_cell"] (defScope sL_names) := ⟨rfl, rfl, rfl, by decide +kernel, rfl, by decide +kernel, by decide +kernel⟩
def gL_names : Rho → Option Out := (gSeq (gSet 1 (fC (.str "abcdefghijklmnopqrstuvwxyz"))) (gSeq (gSet 2 (fMt joinD (fC (.str "")) (fCons (fLc (fR1 (fC (.int 6))) (b1 3) tYesD (f2 ixD (fV 1) (f2 modD (f2 addD (f2 fdivD (fV 0) (fC (.int 7))) (f2 mulD (fC (.int 5)) (fV 3))) (fC (.int 26)))) [3]) fNil))) (gSeq (gIf (fB (f2 eqP (f2 modD (fV 0) (fC (.int 3))) (fC (.int 2)))) (gSeq (gSet 4 (f2 addD (fC (.int 1)) (f2 modD (f2 fdivD (fV 0) (fC (.int 3))) (fC (.int 4))))) (gRet (fLc (fR1 (fC (.int 3))) (b1 5) tYesD (fSl (fV 2) fO0 (fO (f2 addD (fV 4) (fV 5)))) [5]))) gNx) (gSeq (gSet 4 (f2 modD (f2 fdivD (fV 0) (fC (.int 3))) (fC (.int 6)))) (gSeq (gSet 6 (f2 modD (f2 fdivD (fV 0) (fC (.int 18))) (f2 addD (fV 4) (fC (.int 1))))) (gSeq (gOwn 7 fNil) (gSeq (gFor (fR1 (fC (.int 3))) (b1 5) (gSeq (gSet 8 (f2 ixD (fV 1) (f2 modD (f2 addD (f2 fdivD (fV 0) (fC (.int 90))) (f2 mulD (fC (.int 7)) (fV 5))) (fC (.int 26))))) (gApp 7 (f2 addD (f2 addD (fSl (fV 2) fO0 (fO (fV 6))) (fV 8)) (fSl (fV 2) (fO (fV 6)) (fO (fV 4))))))) (fun ρ => (gRet (fV 7)) (frz 7 ρ)))))))))
theorem okL_names {k : Nat} (hB : Bl mg) (D : Df K mg "_law_names" sL_names ["_law_cell"])  : Kn P w K mg base (k + 1) 1 "_law_names" (fnD 9 (gL_names )) := by
  refine kn_of (P := P) (w := w) (base := base) (N := NL_names) (ps := ["_law_cell"]) (g := gL_names ) D scL_names fun f cdv A outer s H E hr => ?_
  exact (psd_cons (psd_asg (ps_set (i := 1) scL_names.nd rfl (by first | exact Or.inl rfl | exact Or.inr rfl) pd_str)) (psd_cons (psd_asg (ps_set (i := 2) scL_names.nd rfl (by first | exact Or.inl rfl | exact Or.inr rfl) (pd_bm PySem.F.plainAttrs_str PySem.F.slot_str_join PySem.F.type_str_join mt_join rm_join ty_join pd_str (pda_cons (pd_lc gd_1 (by decide) rfl scL_names.nd (pdi_range1 rfl hB.range pd_int) (blkOk_by (N := NL_names) (sc := defScope sL_names) (own := [("_law_j", 3)]) (by decide +kernel)) (fun _ _ _ _ _ => (pg_name (i := 3) scL_names.nd rfl (by first | exact Or.inl rfl | exact Or.inr rfl))) (fun _ _ _ _ _ => pdts_nil) (fun _ _ _ _ _ => (pd_ix (pd_v (pv 1)) (pd_op op_mod rd_mod (pd_op op_addD rd_add (pd_op op_fdiv rd_fdiv (pd_v (pv 0)) pd_int) (pd_op op_mulD rd_mul pd_int (pd_v (pv 3)))) pd_int) (fun _ _ => rfl)))) pda_nil)))) (psd_cons (psd_if (pdt_cmp (op_eqA hr.units) rd_eq (pd_op op_mod rd_mod (pd_v (pv 0)) pd_int) pd_int (nomark _)) (psd_cons (psd_asg (ps_set (i := 4) scL_names.nd rfl (by first | exact Or.inl rfl | exact Or.inr rfl) (pd_op op_addD rd_add pd_int (pd_op op_mod rd_mod (pd_op op_fdiv rd_fdiv (pd_v (pv 0)) pd_int) pd_int)))) (psd_one (psd_ret (pd_lc gd_1 (by decide) rfl scL_names.nd (pdi_range1 rfl hB.range pd_int) (blkOk_by (N := NL_names) (sc := defScope sL_names) (own := [("_law_k", 5)]) (by decide +kernel)) (fun _ _ _ _ _ => (pg_name (i := 5) scL_names.nd rfl (by first | exact Or.inl rfl | exact Or.inr rfl))) (fun _ _ _ _ _ => pdts_nil) (fun _ _ _ _ _ => (pd_sl (pd_v (pv 2)) pdo_none (pdo_some (pd_op op_addD rd_add (pd_v (pv 4)) (pd_v (pv 5)))))))))) psd_nil) (psd_cons (psd_asg (ps_set (i := 4) scL_names.nd rfl (by first | exact Or.inl rfl | exact Or.inr rfl) (pd_op op_mod rd_mod (pd_op op_fdiv rd_fdiv (pd_v (pv 0)) pd_int) pd_int))) (psd_cons (psd_asg (ps_set (i := 6) scL_names.nd rfl (by first | exact Or.inl rfl | exact Or.inr rfl) (pd_op op_mod rd_mod (pd_op op_fdiv rd_fdiv (pd_v (pv 0)) pd_int) (pd_op op_addD rd_add (pd_v (pv 4)) pd_int)))) (psd_cons (psd_own (ps_set (i := 7) scL_names.nd rfl (by first | exact Or.inl rfl | exact Or.inr rfl) (pe_lst pda_nil))) (psd_cons (psd_for gd_1 PassesOwn.never rfl (pdi_range1 rfl hB.range pd_int) (pg_name (i := 5) scL_names.nd rfl (by first | exact Or.inl rfl | exact Or.inr rfl)) (psd_cons (psd_asg (ps_set (i := 8) scL_names.nd rfl (by first | exact Or.inl rfl | exact Or.inr rfl) (pd_ix (pd_v (pv 1)) (pd_op op_mod rd_mod (pd_op op_addD rd_add (pd_op op_fdiv rd_fdiv (pd_v (pv 0)) pd_int) (pd_op op_mulD rd_mul pd_int (pd_v (pv 5)))) pd_int) (fun _ _ => rfl)))) (psd_one (psd_app (ps_expr (pe_bm PySem.F.plainAttrs_list PySem.F.slot_list_append PySem.F.type_list_append mt_append (pv 7) (pa_cons (pd_op op_addD rd_add (pd_op op_addD rd_add (pd_sl (pd_v (pv 2)) pdo_none (pdo_some (pd_v (pv 6)))) (pd_v (pv 8))) (pd_sl (pd_v (pv 2)) (pdo_some (pd_v (pv 6))) (pdo_some (pd_v (pv 4))))) pa_nil))))))) (psd_one (psd_frz 7 (psd_ret (pd_v (pv 7))))))))))))
abbrev sL_made : Stmt := top 12
abbrev NL_made : List Str := ["_law_script", "_law_spot", "_law_names_here", "_law_deep", "_law_ahead", "_law_cell", "_law_more", "_law_kinds", "_law_kind", "_law_one"]
theorem scL_made : FnScope NL_made ["_law_script", "_law_spot", "_law_names_here", "_law_deep", "_law_ahead"] (defScope sL_made) := ⟨rfl, rfl, rfl, by decide +kernel, rfl, by decide +kernel, by decide +kernel⟩
def gL_made (FL_draw : List PyData → List PyData → Option (PyData × List PyData)) (FL_made : List PyData → List PyData → Option (PyData × List PyData)) : Rho → Option Out := (gSeq (gSetE 5 (fCaC 2 FL_draw 1 (fV 0) fNil)) (gSeq (gSet 6 (f2 fdivD (fV 5) (fC (.int 14)))) (gSeq (gIf (fOrT (fB (f2 (rb fun i j => decide (i < j)) (fV 3) (fC (.int 2)))) (fB (f2 (rb fun i j => decide (i < j)) (f2 modD (fV 5) (fC (.int 14))) (fC (.int 2))))) (gSeq (gIf (fB (f2 eqP (f2 modD (fV 6) (fC (.int 9))) (fC (.int 4)))) (gRet (fTup (fCons (fC (.str "yes")) fNil))) gNx) (gRet (fTup (fCons (fC (.str "mark")) (fCons (f2 ixD (fV 2) (f2 modD (fV 6) (fC (.int 3)))) fNil))))) gNx) (gSeq (gSet 7 (fC (.str "not and or before since not and before since or since before"))) (gSeq (gIf (fB (fV 4)) (gSet 7 (fC (.str "not and or next until within until next since before until within"))) gNx) (gSeq (gSet 8 (f2 ixD (fMt splitD (fV 7) (fCons (fC (.str " ")) fNil)) (f2 (ri fun i j => i - j) (f2 modD (fV 5) (fC (.int 14))) (fC (.int 2))))) (gSeq (gSet 4 (fAnd (fV 4) (f2 niP (fV 8) (fTup (fCons (fC (.str "before")) (fCons (fC (.str "since")) fNil)))))) (gSeq (gSetE 9 (fCaC 5 FL_made 1 (fV 0) (fCons (fV 2) (fCons (f2 (ri fun i j => i - j) (fV 3) (fC (.int 1))) (fCons (fV 4) fNil))))) (gSeq (gIf (fB (f2 eqP (fV 8) (fC (.str "within")))) (gRet (fTup (fCons (fV 8) (fCons (f2 ixD (fLst (fCons (fC (.int 1)) (fCons (fC (.int 2)) (fCons (fC (.int 0)) (fCons (fC (.int 1)) (fCons (f2 modD (f2 fdivD (fV 6) (fC (.int 6))) (fC (.int 5))) fNil)))))) (f2 modD (fV 6) (fC (.int 5)))) (fCons (fV 9) fNil))))) gNx) (gSeq (gIf (fB (f2 inP (fV 8) (fTup (fCons (fC (.str "not")) (fCons (fC (.str "next")) (fCons (fC (.str "before")) fNil)))))) (gRet (fTup (fCons (fV 8) (fCons (fV 9) fNil)))) gNx) (gRetE (fTupE (fE2 (fV 8) (fE2 (fV 9) (fE1 (fCaC 5 FL_made 1 (fV 0) (fCons (fV 2) (fCons (f2 (ri fun i j => i - j) (fV 3) (fC (.int 1))) (fCons (fV 4) fNil)))) fNil)))))))))))))))
theorem okL_made {k : Nat} {FL_draw : List PyData → List PyData → Option (PyData × List PyData)} {FL_made : List PyData → List PyData → Option (PyData × List PyData)} {R : List PyData → List PyData → Option (PyData × List PyData)} (hB : Bl mg) (D : Df K mg "_law_made" sL_made ["_law_script", "_law_spot", "_law_names_here", "_law_deep", "_law_ahead"]) (hF : ∀ a ds xs r, ds.length + 1 = 5 → R ds xs = some r → retC a ((gL_made FL_draw FL_made) (startC 10 a ds xs)) = some r) (cL_draw : KnC P w K mg base k 2 "_law_draw" FL_draw) (cL_made : KnC P w K mg base k 5 "_law_made" FL_made) : KnC P w K mg base (k + 1) 5 "_law_made" R := by
  refine knC_of (P := P) (w := w) (base := base) (N := NL_made) (ps := ["_law_script", "_law_spot", "_law_names_here", "_law_deep", "_law_ahead"]) (g := gL_made FL_draw FL_made) D scL_made hF fun f cdv A outer s H E hr => ?_
  exact (psd_cons (psd_asgE (ps_set (i := 5) scL_made.nd rfl (by first | exact Or.inl rfl | exact Or.inr rfl) (pde_knC cL_draw hr (pd_v (pv 0)) (pv 1) pda_nil))) (psd_cons (psd_asg (ps_set (i := 6) scL_made.nd rfl (by first | exact Or.inl rfl | exact Or.inr rfl) (pd_op op_fdiv rd_fdiv (pd_v (pv 5)) pd_int))) (psd_cons (psd_if (pdt_w (pdw_or (pdt_cmp op_lt rd_rb (pd_v (pv 3)) pd_int (nomark _)) (pdw_or1 (pdt_cmp op_lt rd_rb (pd_op op_mod rd_mod (pd_v (pv 5)) pd_int) pd_int (nomark _))))) (psd_cons (psd_if (pdt_cmp (op_eqA hr.units) rd_eq (pd_op op_mod rd_mod (pd_v (pv 6)) pd_int) pd_int (nomark _)) (psd_one (psd_ret (pd_tup (pda_cons pd_str pda_nil)))) psd_nil) (psd_one (psd_ret (pd_tup (pda_cons pd_str (pda_cons (pd_ix (pd_v (pv 2)) (pd_op op_mod rd_mod (pd_v (pv 6)) pd_int) (fun _ _ => rfl)) pda_nil)))))) psd_nil) (psd_cons (psd_asg (ps_set (i := 7) scL_made.nd rfl (by first | exact Or.inl rfl | exact Or.inr rfl) pd_str)) (psd_cons (psd_if (pdt_val (pd_v (pv 4))) (psd_one (psd_asg (ps_set (i := 7) scL_made.nd rfl (by first | exact Or.inl rfl | exact Or.inr rfl) pd_str))) psd_nil) (psd_cons (psd_asg (ps_set (i := 8) scL_made.nd rfl (by first | exact Or.inl rfl | exact Or.inr rfl) (pd_ix (pd_bm PySem.F.plainAttrs_str PySem.F.slot_str_split PySem.F.type_str_split mt_split rm_split ty_split (pd_v (pv 7)) (pda_cons pd_str pda_nil)) (pd_op op_sub rd_sub (pd_op op_mod rd_mod (pd_v (pv 5)) pd_int) pd_int) (fun _ _ => rfl)))) (psd_cons (psd_asg (ps_set (i := 4) scL_made.nd rfl (by first | exact Or.inl rfl | exact Or.inr rfl) (pd_and (pd_v (pv 4)) (pd_one (pd_cmp (op_niA (units65 hr)) rd_ni (pd_v (pv 8)) (pd_tup (pda_cons pd_str (pda_cons pd_str pda_nil))) (by rfl)))))) (psd_cons (psd_asgE (ps_set (i := 9) scL_made.nd rfl (by first | exact Or.inl rfl | exact Or.inr rfl) (pde_knC cL_made hr (pd_v (pv 0)) (pv 1) (pda_cons (pd_v (pv 2)) (pda_cons (pd_op op_sub rd_sub (pd_v (pv 3)) pd_int) (pda_cons (pd_v (pv 4)) pda_nil)))))) (psd_cons (psd_if (pdt_cmp (op_eqA hr.units) rd_eq (pd_v (pv 8)) pd_str (nomark _)) (psd_one (psd_ret (pd_tup (pda_cons (pd_v (pv 8)) (pda_cons (pd_ix (pd_lst (pda_cons pd_int (pda_cons pd_int (pda_cons pd_int (pda_cons pd_int (pda_cons (pd_op op_mod rd_mod (pd_op op_fdiv rd_fdiv (pd_v (pv 6)) pd_int) pd_int) pda_nil)))))) (pd_op op_mod rd_mod (pd_v (pv 6)) pd_int) (fun _ _ => rfl)) (pda_cons (pd_v (pv 9)) pda_nil)))))) psd_nil) (psd_cons (psd_if (pdt_cmp (op_inA (units65 hr)) rd_in (pd_v (pv 8)) (pd_tup (pda_cons pd_str (pda_cons pd_str (pda_cons pd_str pda_nil)))) (by rfl)) (psd_one (psd_ret (pd_tup (pda_cons (pd_v (pv 8)) (pda_cons (pd_v (pv 9)) pda_nil))))) psd_nil) (psd_one (psd_retE (pde_tup (pdae_cons (pd_v (pv 8)) (pdae_cons (pd_v (pv 9)) (pdae_first (pde_knC cL_made hr (pd_v (pv 0)) (pv 1) (pda_cons (pd_v (pv 2)) (pda_cons (pd_op op_sub rd_sub (pd_v (pv 3)) pd_int) (pda_cons (pd_v (pv 4)) pda_nil)))) pda_nil))))))))))))))))
abbrev sL_all : Stmt := top 13
abbrev NL_all : List Str := ["_law_statement", "_law_found", "_law_part"]
theorem scL_all : FnScope NL_all ["_law_statement"] (defScope sL_all) := ⟨rfl, rfl, rfl, by decide +kernel, rfl, by decide +kernel, by decide +kernel⟩
def gL_all (FL_all : List PyData → Option PyData) : Rho → Option Out := (gSeq (gSet 1 (fLst (fCons (fV 0) fNil))) (gSeq (gFor (fSeq (fSl (fV 0) (fO (fC (.int 1))) fO0)) (b1 2) (gIf (fB (f1 (isiD "tuple") (fV 2))) (gSet 1 (f2 addD (fV 1) (fCa 1 FL_all (fCons (fV 2) fNil)))) gNx)) (gRet (fV 1))))
theorem okL_all {k : Nat} {FL_all : List PyData → Option PyData} (hB : Bl mg) (D : Df K mg "_law_all" sL_all ["_law_statement"]) (cL_all : Kn P w K mg base k 1 "_law_all" FL_all) : Kn P w K mg base (k + 1) 1 "_law_all" (fnD 3 (gL_all FL_all)) := by
  refine kn_of (P := P) (w := w) (base := base) (N := NL_all) (ps := ["_law_statement"]) (g := gL_all FL_all) D scL_all fun f cdv A outer s H E hr => ?_
  exact (psd_cons (psd_asg (ps_set (i := 1) scL_all.nd rfl (by first | exact Or.inl rfl | exact Or.inr rfl) (pd_lst (pda_cons (pd_v (pv 0)) pda_nil)))) (psd_cons (psd_for gd_1 PassesOwn.never rfl (pdi_seq (pd_sl (pd_v (pv 0)) (pdo_some pd_int) pdo_none)) (pg_name (i := 2) scL_all.nd rfl (by first | exact Or.inl rfl | exact Or.inr rfl)) (psd_one (psd_if (pdt_val (pd_isi rfl hB.isinstance (pd_v (pv 2)) (pe_bltn rfl hB.tuple (by decide +kernel) rfl))) (psd_one (psd_asg (ps_set (i := 1) scL_all.nd rfl (by first | exact Or.inl rfl | exact Or.inr rfl) (pd_op op_addD rd_add (pd_v (pv 1)) (pd_kn cL_all hr (pda_cons (pd_v (pv 2)) pda_nil)))))) psd_nil))) (psd_one (psd_ret (pd_v (pv 1))))))
abbrev sL_wishes : Stmt := top 14
abbrev NL_wishes : List Str := ["_law_statement", "_law_found", "_law_one", "_law_more", "_law_k", "_law_other"]
theorem scL_wishes : FnScope NL_wishes ["_law_statement"] (defScope sL_wishes) := ⟨rfl, rfl, rfl, by decide +kernel, rfl, by decide +kernel, by decide +kernel⟩
def gL_wishes (FL_all : List PyData → Option PyData) : Rho → Option Out := (gSeq (gSet 1 (fLst (fCons (fV 0) fNil))) (gSeq (gFor (fSeq (fCa 1 FL_all (fCons (fV 0) fNil))) (b1 2) (gSeq (gSet 3 (fLst fNil)) (gSeq (gIf (fB (f2 eqP (f2 ixD (fV 2) (fC (.int 0))) (fC (.str "next")))) (gSet 3 (fLst (fCons (f2 ixD (fV 2) (fC (.int 1))) fNil))) (gIf (fB (f2 eqP (f2 ixD (fV 2) (fC (.int 0))) (fC (.str "until")))) (gSet 3 (fLst (fCons (fV 2) fNil))) (gIf (fB (f2 eqP (f2 ixD (fV 2) (fC (.int 0))) (fC (.str "within")))) (gSet 3 (fLc (fR1 (f2 ixD (fV 2) (fC (.int 1)))) (b1 4) tYesD (fTup (fCons (fC (.str "within")) (fCons (fV 4) (fCons (f2 ixD (fV 2) (fC (.int 2))) fNil)))) [4])) gNx))) (gSet 1 (f2 addD (fV 1) (fLc (fSeq (fV 3)) (b1 5) (fB (f2 niP (fV 5) (fV 1))) (fV 5) [5])))))) (gRet (fV 1))))
theorem okL_wishes {k : Nat} {FL_all : List PyData → Option PyData} (hB : Bl mg) (D : Df K mg "_law_wishes" sL_wishes ["_law_statement"]) (cL_all : Kn P w K mg base k 1 "_law_all" FL_all) : Kn P w K mg base (k + 1) 1 "_law_wishes" (fnD 6 (gL_wishes FL_all)) := by
  refine kn_of (P := P) (w := w) (base := base) (N := NL_wishes) (ps := ["_law_statement"]) (g := gL_wishes FL_all) D scL_wishes fun f cdv A outer s H E hr => ?_
  exact (psd_cons (psd_asg (ps_set (i := 1) scL_wishes.nd rfl (by first | exact Or.inl rfl | exact Or.inr rfl) (pd_lst (pda_cons (pd_v (pv 0)) pda_nil)))) (psd_cons (psd_for gd_1 PassesOwn.never rfl (pdi_seq (pd_kn cL_all hr (pda_cons (pd_v (pv 0)) pda_nil))) (pg_name (i := 2) scL_wishes.nd rfl (by first | exact Or.inl rfl | exact Or.inr rfl)) (psd_cons (psd_asg (ps_set (i := 3) scL_wishes.nd rfl (by first | exact Or.inl rfl | exact Or.inr rfl) (pd_lst pda_nil))) (psd_cons (psd_if (pdt_cmp (op_eqA hr.units) rd_eq (pd_ix (pd_v (pv 2)) pd_int (fun _ _ => rfl)) pd_str (nomark _)) (psd_one (psd_asg (ps_set (i := 3) scL_wishes.nd rfl (by first | exact Or.inl rfl | exact Or.inr rfl) (pd_lst (pda_cons (pd_ix (pd_v (pv 2)) pd_int (fun _ _ => rfl)) pda_nil))))) (psd_one (psd_if (pdt_cmp (op_eqA hr.units) rd_eq (pd_ix (pd_v (pv 2)) pd_int (fun _ _ => rfl)) pd_str (nomark _)) (psd_one (psd_asg (ps_set (i := 3) scL_wishes.nd rfl (by first | exact Or.inl rfl | exact Or.inr rfl) (pd_lst (pda_cons (pd_v (pv 2)) pda_nil))))) (psd_one (psd_if (pdt_cmp (op_eqA hr.units) rd_eq (pd_ix (pd_v (pv 2)) pd_int (fun _ _ => rfl)) pd_str (nomark _)) (psd_one (psd_setLc (i := 3) gd_1 (by decide) rfl scL_wishes.nd rfl rfl (sw_true rfl rfl rfl (by decide +kernel)) (pdi_range1 rfl hB.range (pd_ix (pd_v (pv 2)) pd_int (fun _ _ => rfl))) (blkOk_by (N := NL_wishes) (sc := defScope sL_wishes) (own := [("_law_k", 4)]) (by decide +kernel)) (fun _ _ _ _ _ => (pg_name (i := 4) scL_wishes.nd rfl (by first | exact Or.inl rfl | exact Or.inr rfl))) (fun _ _ _ _ _ => pdts_nil) (fun _ _ _ _ _ => (pd_tup (pda_cons pd_str (pda_cons (pd_v (pv 4)) (pda_cons (pd_ix (pd_v (pv 2)) pd_int (fun _ _ => rfl)) pda_nil))))))) psd_nil))))) (psd_one (psd_asg (ps_set (i := 1) scL_wishes.nd rfl (by first | exact Or.inl rfl | exact Or.inr rfl) (pd_op op_addD rd_add (pd_v (pv 1)) (pd_lc gd_1 (by decide) rfl scL_wishes.nd (pdi_seq (pd_v (pv 3))) (blkOk_by (N := NL_wishes) (sc := defScope sL_wishes) (own := [("_law_other", 5)]) (by decide +kernel)) (fun _ _ _ _ _ => (pg_name (i := 5) scL_wishes.nd rfl (by first | exact Or.inl rfl | exact Or.inr rfl))) (fun _ _ _ _ _ => pdts_one (pdt_cmp (op_niA (units65 hr)) rd_ni (pd_v (pv 5)) (pd_v (pv 1)) (by rfl))) (fun _ _ _ _ _ => (pd_v (pv 5))))))))))) (psd_one (psd_ret (pd_v (pv 1))))))
abbrev sL_fit : Stmt := top 15
abbrev NL_fit : List Str := ["_law_statement", "_law_most"]
theorem scL_fit : FnScope NL_fit ["_law_statement", "_law_most"] (defScope sL_fit) := ⟨rfl, rfl, rfl, by decide +kernel, rfl, by decide +kernel, by decide +kernel⟩
def gL_fit (FL_wishes : List PyData → Option PyData) : Rho → Option Out := (gSeq (whileGo (fB (f2 (rb fun i j => decide (j < i)) (fCl (one1 lenD) (fCons (fCa 1 FL_wishes (fCons (fV 0) fNil)) fNil)) (fV 1))) (gSet 0 (f2 ixD (fV 0) (f1 negD (fC (.int 1))))) 1000) (gRet (fV 0)))
theorem okL_fit {k : Nat} {FL_wishes : List PyData → Option PyData} (hB : Bl mg) (D : Df K mg "_law_fit" sL_fit ["_law_statement", "_law_most"]) (cL_wishes : Kn P w K mg base k 1 "_law_wishes" FL_wishes) : Kn P w K mg base (k + 1) 2 "_law_fit" (fnD 2 (gL_fit FL_wishes)) := by
  refine kn_of (P := P) (w := w) (base := base) (N := NL_fit) (ps := ["_law_statement", "_law_most"]) (g := gL_fit FL_wishes) D scL_fit fun f cdv A outer s H E hr => ?_
  exact (psd_cons (psd_while 1000 PassesOwn.never (pdt_cmp op_gt rd_rb (pd_bi call_lenD0 rc_len rfl hB.len (by decide +kernel) (pda_cons (pd_kn cL_wishes hr (pda_cons (pd_v (pv 0)) pda_nil)) pda_nil)) (pd_v (pv 1)) (nomark _)) (psd_one (psd_asg (ps_set (i := 0) scL_fit.nd rfl (by first | exact Or.inl rfl | exact Or.inr rfl) (pd_ix (pd_v (pv 0)) (pd_neg pd_int) (fun _ _ => rfl)))))) (psd_one (psd_ret (pd_v (pv 0)))))
abbrev sL_until : Stmt := top 16
abbrev NL_until : List Str := ["_law_ones", "_law_others", "_law_found", "_law_after", "_law_one", "_law_other"]
theorem scL_until : FnScope NL_until ["_law_ones", "_law_others"] (defScope sL_until) := ⟨rfl, rfl, rfl, by decide +kernel, rfl, by decide +kernel, by decide +kernel⟩
def gL_until : Rho → Option Out := (gSeq (gOwn 2 fNil) (gSeq (gSet 3 (fC (.bool false))) (gSeq (gFor (fZ (fV 0) (fV 1)) (b2 4 5) (gSeq (gSet 3 (fOr (fV 5) (fAnd (fV 4) (fV 3)))) (gApp 2 (fV 3)))) (fun ρ => (gRet (fV 2)) (frz 2 ρ)))))
theorem okL_until {k : Nat} (hB : Bl mg) (D : Df K mg "_law_until" sL_until ["_law_ones", "_law_others"])  : Kn P w K mg base (k + 1) 2 "_law_until" (fnD 6 (gL_until )) := by
  refine kn_of (P := P) (w := w) (base := base) (N := NL_until) (ps := ["_law_ones", "_law_others"]) (g := gL_until ) D scL_until fun f cdv A outer s H E hr => ?_
  exact (psd_cons (psd_own (ps_set (i := 2) scL_until.nd rfl (by first | exact Or.inl rfl | exact Or.inr rfl) (pe_lst pda_nil))) (psd_cons (psd_asg (ps_set (i := 3) scL_until.nd rfl (by first | exact Or.inl rfl | exact Or.inr rfl) pd_bl)) (psd_cons (psd_for gd_2 PassesOwn.never rfl (pdi_zip (by rfl) hB.zip (pd_v (pv 0)) (pd_v (pv 1))) (pg_tup rfl (pgs_cons (pg_name (i := 4) scL_until.nd rfl (by first | exact Or.inl rfl | exact Or.inr rfl)) (pgs_cons (pg_name (i := 5) scL_until.nd rfl (by first | exact Or.inl rfl | exact Or.inr rfl)) pgs_nil))) (psd_cons (psd_asg (ps_set (i := 3) scL_until.nd rfl (by first | exact Or.inl rfl | exact Or.inr rfl) (pd_or (pd_v (pv 5)) (pd_one (pd_and (pd_v (pv 4)) (pd_one (pd_v (pv 3)))))))) (psd_one (psd_app (ps_expr (pe_bm PySem.F.plainAttrs_list PySem.F.slot_list_append PySem.F.type_list_append mt_append (pv 2) (pa_cons (pd_v (pv 3)) pa_nil))))))) (psd_one (psd_frz 2 (psd_ret (pd_v (pv 2))))))))
abbrev sL_means : Stmt := top 17
abbrev NL_means : List Str := ["_law_statement", "_law_run_here", "_law_word", "_law_mark", "_law_rows", "_law_part", "_law_one", "_law_other", "_law_k"]
theorem scL_means : FnScope NL_means ["_law_statement", "_law_run_here"] (defScope sL_means) := ⟨rfl, rfl, rfl, by decide +kernel, rfl, by decide +kernel, by decide +kernel⟩
def gL_means (FL_means : List PyData → Option PyData) (FL_until : List PyData → Option PyData) : Rho → Option Out := (gSeq (gSet 2 (f2 ixD (fV 0) (fC (.int 0)))) (gSeq (gIf (fB (f2 eqP (fV 2) (fC (.str "mark")))) (gRet (fLc (fSeq (fV 1)) (b1 3) tYesD (f2 eqP (fV 3) (f2 ixD (fV 0) (fC (.int 1)))) [3])) gNx) (gSeq (gIf (fB (f2 eqP (fV 2) (fC (.str "yes")))) (gRet (fLc (fSeq (fV 1)) (b1 3) tYesD (fC (.bool true)) [3])) gNx) (gSeq (gSet 4 (fLc (fSeq (fSl (fV 0) (fO (fC (.int 1))) fO0)) (b1 5) (fB (f1 (isiD "tuple") (fV 5))) (fCa 2 FL_means (fCons (fV 5) (fCons (fV 1) fNil))) [5])) (gSeq (gIf (fB (f2 eqP (fV 2) (fC (.str "not")))) (gRet (fLc (fSeq (f2 ixD (fV 4) (fC (.int 0)))) (b1 6) tYesD (fNot (fV 6)) [6])) gNx) (gSeq (gIf (fB (f2 eqP (fV 2) (fC (.str "and")))) (gRet (fLc (fZ (f2 ixD (fV 4) (fC (.int 0))) (f2 ixD (fV 4) (fC (.int 1)))) (b2 6 7) tYesD (fAnd (fV 6) (fV 7)) [6, 7])) gNx) (gSeq (gIf (fB (f2 eqP (fV 2) (fC (.str "or")))) (gRet (fLc (fZ (f2 ixD (fV 4) (fC (.int 0))) (f2 ixD (fV 4) (fC (.int 1)))) (b2 6 7) tYesD (fOr (fV 6) (fV 7)) [6, 7])) gNx) (gSeq (gIf (fB (f2 eqP (fV 2) (fC (.str "next")))) (gRet (fSl (f2 addD (f2 ixD (fV 4) (fC (.int 0))) (fLst (fCons (fC (.bool false)) fNil))) (fO (fC (.int 1))) fO0)) gNx) (gSeq (gIf (fB (f2 eqP (fV 2) (fC (.str "before")))) (gRet (fSl (f2 addD (fLst (fCons (fC (.bool false)) fNil)) (f2 ixD (fV 4) (fC (.int 0)))) fO0 (fO (fCl (one1 lenD) (fCons (fV 1) fNil))))) gNx) (gSeq (gIf (fB (f2 eqP (fV 2) (fC (.str "within")))) (gRet (fLc (fR1 (fCl (one1 lenD) (fCons (fV 1) fNil))) (b1 8) tYesD (f2 inP (fC (.bool true)) (fSl (f2 ixD (fV 4) (fC (.int 0))) (fO (fV 8)) (fO (f2 addD (f2 addD (fV 8) (f2 ixD (fV 0) (fC (.int 1)))) (fC (.int 1)))))) [8])) gNx) (gSeq (gIf (fB (f2 eqP (fV 2) (fC (.str "since")))) (gRet (fCa 2 FL_until (fCons (f2 ixD (fV 4) (fC (.int 0))) (fCons (f2 ixD (fV 4) (fC (.int 1))) fNil)))) gNx) (gRet (f1 revD (fCa 2 FL_until (fCons (f1 revD (f2 ixD (fV 4) (fC (.int 0)))) (fCons (f1 revD (f2 ixD (fV 4) (fC (.int 1)))) fNil))))))))))))))))
theorem okL_means {k : Nat} {FL_means : List PyData → Option PyData} {FL_until : List PyData → Option PyData} (hB : Bl mg) (D : Df K mg "_law_means" sL_means ["_law_statement", "_law_run_here"]) (cL_means : Kn P w K mg base k 2 "_law_means" FL_means) (cL_until : Kn P w K mg base k 2 "_law_until" FL_until) : Kn P w K mg base (k + 1) 2 "_law_means" (fnD 9 (gL_means FL_means FL_until)) := by
  refine kn_of (P := P) (w := w) (base := base) (N := NL_means) (ps := ["_law_statement", "_law_run_here"]) (g := gL_means FL_means FL_until) D scL_means fun f cdv A outer s H E hr => ?_
  exact (psd_cons (psd_asg (ps_set (i := 2) scL_means.nd rfl (by first | exact Or.inl rfl | exact Or.inr rfl) (pd_ix (pd_v (pv 0)) pd_int (fun _ _ => rfl)))) (psd_cons (psd_if (pdt_cmp (op_eqA hr.units) rd_eq (pd_v (pv 2)) pd_str (nomark _)) (psd_one (psd_ret (pd_lc gd_1 (by decide) rfl scL_means.nd (pdi_seq (pd_v (pv 1))) (blkOk_by (N := NL_means) (sc := defScope sL_means) (own := [("_law_mark", 3)]) (by decide +kernel)) (fun _ _ _ _ _ => (pg_name (i := 3) scL_means.nd rfl (by first | exact Or.inl rfl | exact Or.inr rfl))) (fun _ _ _ _ _ => pdts_nil) (fun _ _ _ _ _ => (pd_cmp (op_eqA hr.units) rd_eq (pd_v (pv 3)) (pd_ix (pd_v (pv 0)) pd_int (fun _ _ => rfl)) (nomark _)))))) psd_nil) (psd_cons (psd_if (pdt_cmp (op_eqA hr.units) rd_eq (pd_v (pv 2)) pd_str (nomark _)) (psd_one (psd_ret (pd_lc gd_1 (by decide) rfl scL_means.nd (pdi_seq (pd_v (pv 1))) (blkOk_by (N := NL_means) (sc := defScope sL_means) (own := [("_law_mark", 3)]) (by decide +kernel)) (fun _ _ _ _ _ => (pg_name (i := 3) scL_means.nd rfl (by first | exact Or.inl rfl | exact Or.inr rfl))) (fun _ _ _ _ _ => pdts_nil) (fun _ _ _ _ _ => pd_bl)))) psd_nil) (psd_cons (psd_asg (ps_set (i := 4) scL_means.nd rfl (by first | exact Or.inl rfl | exact Or.inr rfl) (pd_lc gd_1 (by decide) rfl scL_means.nd (pdi_seq (pd_sl (pd_v (pv 0)) (pdo_some pd_int) pdo_none)) (blkOk_by (N := NL_means) (sc := defScope sL_means) (own := [("_law_part", 5)]) (by decide +kernel)) (fun _ _ _ _ _ => (pg_name (i := 5) scL_means.nd rfl (by first | exact Or.inl rfl | exact Or.inr rfl))) (fun _ _ _ _ _ => pdts_one (pdt_val (pd_isi rfl hB.isinstance (pd_v (pv 5)) (pe_bltn rfl hB.tuple (by decide +kernel) rfl)))) (fun _ _ _ _ _ => (pd_kn cL_means hr (pda_cons (pd_v (pv 5)) (pda_cons (pd_v (pv 1)) pda_nil))))))) (psd_cons (psd_if (pdt_cmp (op_eqA hr.units) rd_eq (pd_v (pv 2)) pd_str (nomark _)) (psd_one (psd_ret (pd_lc gd_1 (by decide) rfl scL_means.nd (pdi_seq (pd_ix (pd_v (pv 4)) pd_int (fun _ _ => rfl))) (blkOk_by (N := NL_means) (sc := defScope sL_means) (own := [("_law_one", 6)]) (by decide +kernel)) (fun _ _ _ _ _ => (pg_name (i := 6) scL_means.nd rfl (by first | exact Or.inl rfl | exact Or.inr rfl))) (fun _ _ _ _ _ => pdts_nil) (fun _ _ _ _ _ => (pd_not (pd_v (pv 6))))))) psd_nil) (psd_cons (psd_if (pdt_cmp (op_eqA hr.units) rd_eq (pd_v (pv 2)) pd_str (nomark _)) (psd_one (psd_ret (pd_lc gd_2 (by decide) rfl scL_means.nd (pdi_zip (by rfl) hB.zip (pd_ix (pd_v (pv 4)) pd_int (fun _ _ => rfl)) (pd_ix (pd_v (pv 4)) pd_int (fun _ _ => rfl))) (blkOk_by (N := NL_means) (sc := defScope sL_means) (own := [("_law_one", 6), ("_law_other", 7)]) (by decide +kernel)) (fun _ _ _ _ _ => (pg_tup rfl (pgs_cons (pg_name (i := 6) scL_means.nd rfl (by first | exact Or.inl rfl | exact Or.inr rfl)) (pgs_cons (pg_name (i := 7) scL_means.nd rfl (by first | exact Or.inl rfl | exact Or.inr rfl)) pgs_nil)))) (fun _ _ _ _ _ => pdts_nil) (fun _ _ _ _ _ => (pd_and (pd_v (pv 6)) (pd_one (pd_v (pv 7)))))))) psd_nil) (psd_cons (psd_if (pdt_cmp (op_eqA hr.units) rd_eq (pd_v (pv 2)) pd_str (nomark _)) (psd_one (psd_ret (pd_lc gd_2 (by decide) rfl scL_means.nd (pdi_zip (by rfl) hB.zip (pd_ix (pd_v (pv 4)) pd_int (fun _ _ => rfl)) (pd_ix (pd_v (pv 4)) pd_int (fun _ _ => rfl))) (blkOk_by (N := NL_means) (sc := defScope sL_means) (own := [("_law_one", 6), ("_law_other", 7)]) (by decide +kernel)) (fun _ _ _ _ _ => (pg_tup rfl (pgs_cons (pg_name (i := 6) scL_means.nd rfl (by first | exact Or.inl rfl | exact Or.inr rfl)) (pgs_cons (pg_name (i := 7) scL_means.nd rfl (by first | exact Or.inl rfl | exact Or.inr rfl)) pgs_nil)))) (fun _ _ _ _ _ => pdts_nil) (fun _ _ _ _ _ => (pd_or (pd_v (pv 6)) (pd_one (pd_v (pv 7)))))))) psd_nil) (psd_cons (psd_if (pdt_cmp (op_eqA hr.units) rd_eq (pd_v (pv 2)) pd_str (nomark _)) (psd_one (psd_ret (pd_sl (pd_op op_addD rd_add (pd_ix (pd_v (pv 4)) pd_int (fun _ _ => rfl)) (pd_lst (pda_cons pd_bl pda_nil))) (pdo_some pd_int) pdo_none))) psd_nil) (psd_cons (psd_if (pdt_cmp (op_eqA hr.units) rd_eq (pd_v (pv 2)) pd_str (nomark _)) (psd_one (psd_ret (pd_sl (pd_op op_addD rd_add (pd_lst (pda_cons pd_bl pda_nil)) (pd_ix (pd_v (pv 4)) pd_int (fun _ _ => rfl))) pdo_none (pdo_some (pd_bi call_lenD0 rc_len rfl hB.len (by decide +kernel) (pda_cons (pd_v (pv 1)) pda_nil)))))) psd_nil) (psd_cons (psd_if (pdt_cmp (op_eqA hr.units) rd_eq (pd_v (pv 2)) pd_str (nomark _)) (psd_one (psd_ret (pd_lc gd_1 (by decide) rfl scL_means.nd (pdi_range1 rfl hB.range (pd_bi call_lenD0 rc_len rfl hB.len (by decide +kernel) (pda_cons (pd_v (pv 1)) pda_nil))) (blkOk_by (N := NL_means) (sc := defScope sL_means) (own := [("_law_k", 8)]) (by decide +kernel)) (fun _ _ _ _ _ => (pg_name (i := 8) scL_means.nd rfl (by first | exact Or.inl rfl | exact Or.inr rfl))) (fun _ _ _ _ _ => pdts_nil) (fun _ _ _ _ _ => (pd_cmp (op_inA (units65 hr)) rd_in pd_bl (pd_sl (pd_ix (pd_v (pv 4)) pd_int (fun _ _ => rfl)) (pdo_some (pd_v (pv 8))) (pdo_some (pd_op op_addD rd_add (pd_op op_addD rd_add (pd_v (pv 8)) (pd_ix (pd_v (pv 0)) pd_int (fun _ _ => rfl))) pd_int))) (by rfl)))))) psd_nil) (psd_cons (psd_if (pdt_cmp (op_eqA hr.units) rd_eq (pd_v (pv 2)) pd_str (nomark _)) (psd_one (psd_ret (pd_kn cL_until hr (pda_cons (pd_ix (pd_v (pv 4)) pd_int (fun _ _ => rfl)) (pda_cons (pd_ix (pd_v (pv 4)) pd_int (fun _ _ => rfl)) pda_nil))))) psd_nil) (psd_one (psd_ret (pd_rev (pd_kn cL_until hr (pda_cons (pd_rev (pd_ix (pd_v (pv 4)) pd_int (fun _ _ => rfl))) (pda_cons (pd_rev (pd_ix (pd_v (pv 4)) pd_int (fun _ _ => rfl))) pda_nil)))))))))))))))))
abbrev sL_run : Stmt := top 18
abbrev NL_run : List Str := ["_law_script", "_law_begin", "_law_names_here", "_law_most", "_law_some", "_law_cell"]
theorem scL_run : FnScope NL_run ["_law_script", "_law_begin", "_law_names_here", "_law_most"] (defScope sL_run) := ⟨rfl, rfl, rfl, by decide +kernel, rfl, by decide +kernel, by decide +kernel⟩
def gL_run : Rho → Option Out := (gSeq (gSet 4 (f2 addD (f2 addD (fV 2) (fLst (fCons (fC (.str "")) (fCons (f2 addD (fSl (f2 ixD (fV 2) (fC (.int 2))) fO0 (fO (fC (.int 1)))) (fC (.str "zq"))) fNil)))) (fV 2))) (gRet (fLc (fSeq (fSl (fV 0) (fO (fV 1)) (fO (f2 addD (fV 1) (fV 3))))) (b1 5) tYesD (f2 ixD (fV 4) (f2 modD (fV 5) (fC (.int 8)))) [5])))
theorem okL_run {k : Nat} (hB : Bl mg) (D : Df K mg "_law_run" sL_run ["_law_script", "_law_begin", "_law_names_here", "_law_most"])  : Kn P w K mg base (k + 1) 4 "_law_run" (fnD 6 (gL_run )) := by
  refine kn_of (P := P) (w := w) (base := base) (N := NL_run) (ps := ["_law_script", "_law_begin", "_law_names_here", "_law_most"]) (g := gL_run ) D scL_run fun f cdv A outer s H E hr => ?_
  exact (psd_cons (psd_asg (ps_set (i := 4) scL_run.nd rfl (by first | exact Or.inl rfl | exact Or.inr rfl) (pd_op op_addD rd_add (pd_op op_addD rd_add (pd_v (pv 2)) (pd_lst (pda_cons pd_str (pda_cons (pd_op op_addD rd_add (pd_sl (pd_ix (pd_v (pv 2)) pd_int (fun _ _ => rfl)) pdo_none (pdo_some pd_int)) pd_str) pda_nil)))) (pd_v (pv 2))))) (psd_one (psd_ret (pd_lc gd_1 (by decide) rfl scL_run.nd (pdi_seq (pd_sl (pd_v (pv 0)) (pdo_some (pd_v (pv 1))) (pdo_some (pd_op op_addD rd_add (pd_v (pv 1)) (pd_v (pv 3)))))) (blkOk_by (N := NL_run) (sc := defScope sL_run) (own := [("_law_cell", 5)]) (by decide +kernel)) (fun _ _ _ _ _ => (pg_name (i := 5) scL_run.nd rfl (by first | exact Or.inl rfl | exact Or.inr rfl))) (fun _ _ _ _ _ => pdts_nil) (fun _ _ _ _ _ => (pd_ix (pd_v (pv 4)) (pd_op op_mod rd_mod (pd_v (pv 5)) pd_int) (fun _ _ => rfl)))))))
abbrev sL_built : Stmt := top 19
abbrev NL_built : List Str := ["_law_script", "_law_names_here", "_law_most", "_law_spot", "_law_deep"]
theorem scL_built : FnScope NL_built ["_law_script", "_law_names_here", "_law_most"] (defScope sL_built) := ⟨rfl, rfl, rfl, by decide +kernel, rfl, by decide +kernel, by decide +kernel⟩
def gL_built (FL_cell_at : List PyData → Option PyData) (FL_fit : List PyData → Option PyData) (FL_made : List PyData → List PyData → Option (PyData × List PyData)) : Rho → Option Out := (gSeq (gOwn 3 (fCons (fC (.int 2)) fNil)) (gSeq (gSet 4 (f2 addD (fC (.int 5)) (fCl (one1 intD) (fCons (f2 eqP (f2 modD (fCa 2 FL_cell_at (fCons (fV 0) (fCons (fC (.int 1)) fNil))) (fC (.int 8))) (fC (.int 5))) fNil)))) (gRetE (fCaE 2 FL_fit (fE1 (fCaC 5 FL_made 3 (fV 0) (fCons (fV 1) (fCons (fV 4) (fCons (fC (.bool true)) fNil)))) (fCons (fV 2) fNil))))))
theorem okL_built {k : Nat} {FL_cell_at : List PyData → Option PyData} {FL_fit : List PyData → Option PyData} {FL_made : List PyData → List PyData → Option (PyData × List PyData)} (hB : Bl mg) (D : Df K mg "_law_built" sL_built ["_law_script", "_law_names_here", "_law_most"]) (cL_cell_at : Kn P w K mg base k 2 "_law_cell_at" FL_cell_at) (cL_fit : Kn P w K mg base k 2 "_law_fit" FL_fit) (cL_made : KnC P w K mg base k 5 "_law_made" FL_made) : Kn P w K mg base (k + 1) 3 "_law_built" (fnD 5 (gL_built FL_cell_at FL_fit FL_made)) := by
  refine kn_of (P := P) (w := w) (base := base) (N := NL_built) (ps := ["_law_script", "_law_names_here", "_law_most"]) (g := gL_built FL_cell_at FL_fit FL_made) D scL_built fun f cdv A outer s H E hr => ?_
  exact (psd_cons (psd_own (ps_set (i := 3) scL_built.nd rfl (by first | exact Or.inl rfl | exact Or.inr rfl) (pe_lst (pda_cons pd_int pda_nil)))) (psd_cons (psd_asg (ps_set (i := 4) scL_built.nd rfl (by first | exact Or.inl rfl | exact Or.inr rfl) (pd_op op_addD rd_add pd_int (pd_ty call_int1 rc_int rfl hB.int (by decide +kernel) (pda_cons (pd_cmp (op_eqA hr.units) rd_eq (pd_op op_mod rd_mod (pd_kn cL_cell_at hr (pda_cons (pd_v (pv 0)) (pda_cons pd_int pda_nil))) pd_int) pd_int (nomark _)) pda_nil))))) (psd_one (psd_retE (pde_kn cL_fit hr (pdae_first (pde_knC cL_made hr (pd_v (pv 0)) (pv 3) (pda_cons (pd_v (pv 1)) (pda_cons (pd_v (pv 4)) (pda_cons pd_bl pda_nil)))) (pda_cons (pd_v (pv 2)) pda_nil)))))))
abbrev slaw : Stmt := top 20
abbrev Nlaw : List Str := ["_law_script", "_law_names_here", "_law_statement", "_law_way", "_law_run_here", "_law_handed", "_law_due", "_law_at", "_law_found"]
theorem sclaw : FnScope Nlaw ["_law_script"] (defScope slaw) := ⟨rfl, rfl, rfl, by decide +kernel, rfl, by decide +kernel, by decide +kernel⟩
def glaw (FL_cell_at : List PyData → Option PyData) (FL_names : List PyData → Option PyData) (FL_built : List PyData → Option PyData) (FL_run : List PyData → Option PyData) (FL_means : List PyData → Option PyData) (Fholds : List PyData → Option PyData) : Rho → Option Out := (gSeq (gSet 1 (fCa 1 FL_names (fCons (fCa 2 FL_cell_at (fCons (fV 0) (fCons (fC (.int 0)) fNil))) fNil))) (gSeq (gSet 2 (fCa 3 FL_built (fCons (fV 0) (fCons (fV 1) (fCons (fC (.int 99)) fNil))))) (gSeq (gSet 3 (f2 modD (f2 fdivD (fCa 2 FL_cell_at (fCons (fV 0) (fCons (fC (.int 1)) fNil))) (fC (.int 8))) (fC (.int 6)))) (gSeq (gIf (fAndT (fB (f2 (rb fun i j => decide (i < j)) (fV 3) (fC (.int 2)))) (fB (f2 neP (f2 modD (fCa 2 FL_cell_at (fCons (fV 0) (fCons (fC (.int 1)) fNil))) (fC (.int 8))) (fC (.int 5))))) (gSet 2 (f2 ixD (fLst (fCons (fTup (fCons (fC (.str "before")) (fCons (fV 2) fNil))) (fCons (fTup (fCons (fC (.str "since")) (fCons (fV 2) (fCons (fTup (fCons (fC (.str "mark")) (fCons (f2 ixD (fV 1) (fC (.int 1))) fNil))) fNil)))) fNil))) (fV 3))) gNx) (gSeq (gSet 4 (fCa 4 FL_run (fCons (fV 0) (fCons (fC (.int 3)) (fCons (fV 1) (fCons (fC (.int 12)) fNil)))))) (gSeq (gSet 5 (fCl (one1 listD) (fCons (fV 4) fNil))) (gSeq (gSet 6 (fCa 2 FL_means (fCons (fV 2) (fCons (fV 4) fNil)))) (gSeq (gFor (fR1 (fCl (one1 lenD) (fCons (fV 4) fNil))) (b1 7) (gSeq (gSet 8 (fCa 3 Fholds (fCons (fV 2) (fCons (fV 5) (fCons (fV 7) fNil))))) (gIf (fOrT (fNotT (fB (f1 (isiD "bool") (fV 8)))) (fB (f2 neP (fV 8) (f2 ixD (fV 6) (fV 7))))) (gRet (fC (.bool false))) gNx))) (gRet (f2 eqP (fV 5) (fV 4)))))))))))
theorem oklaw {k : Nat} {FL_cell_at : List PyData → Option PyData} {FL_names : List PyData → Option PyData} {FL_built : List PyData → Option PyData} {FL_run : List PyData → Option PyData} {FL_means : List PyData → Option PyData} {Fholds : List PyData → Option PyData} {f : Addr} {fd : FuncData} (hB : Bl mg) (F : Fun K "law" "law" slaw f fd) (cL_cell_at : Kn P w K mg base k 2 "_law_cell_at" FL_cell_at) (cL_names : Kn P w K mg base k 1 "_law_names" FL_names) (cL_built : Kn P w K mg base k 3 "_law_built" FL_built) (cL_run : Kn P w K mg base k 4 "_law_run" FL_run) (cL_means : Kn P w K mg base k 2 "_law_means" FL_means) (cholds : Kn P w K mg base k 3 "holds" Fholds) : FnOk P w K mg base CX0 (k + 1) f fd ["_law_script"] (spD K 1 (fnD 9 (glaw FL_cell_at FL_names FL_built FL_run FL_means Fholds))) := by
  refine fn_ok (P := P) (w := w) (base := base) (N := Nlaw) (ps := ["_law_script"]) (g := glaw FL_cell_at FL_names FL_built FL_run FL_means Fholds) F sclaw fun cdv A outer s H E hr => ?_
  exact (psd_cons (psd_asg (ps_set (i := 1) sclaw.nd rfl (by first | exact Or.inl rfl | exact Or.inr rfl) (pd_kn cL_names hr (pda_cons (pd_kn cL_cell_at hr (pda_cons (pd_v (pv 0)) (pda_cons pd_int pda_nil))) pda_nil)))) (psd_cons (psd_asg (ps_set (i := 2) sclaw.nd rfl (by first | exact Or.inl rfl | exact Or.inr rfl) (pd_kn cL_built hr (pda_cons (pd_v (pv 0)) (pda_cons (pd_v (pv 1)) (pda_cons pd_int pda_nil)))))) (psd_cons (psd_asg (ps_set (i := 3) sclaw.nd rfl (by first | exact Or.inl rfl | exact Or.inr rfl) (pd_op op_mod rd_mod (pd_op op_fdiv rd_fdiv (pd_kn cL_cell_at hr (pda_cons (pd_v (pv 0)) (pda_cons pd_int pda_nil))) pd_int) pd_int))) (psd_cons (psd_if (pdt_w (pdw_and (pdt_cmp op_lt rd_rb (pd_v (pv 3)) pd_int (nomark _)) (pdw_and1 (pdt_cmp (op_neA hr.units) rd_ne (pd_op op_mod rd_mod (pd_kn cL_cell_at hr (pda_cons (pd_v (pv 0)) (pda_cons pd_int pda_nil))) pd_int) pd_int (nomark _))))) (psd_one (psd_asg (ps_set (i := 2) sclaw.nd rfl (by first | exact Or.inl rfl | exact Or.inr rfl) (pd_ix (pd_lst (pda_cons (pd_tup (pda_cons pd_str (pda_cons (pd_v (pv 2)) pda_nil))) (pda_cons (pd_tup (pda_cons pd_str (pda_cons (pd_v (pv 2)) (pda_cons (pd_tup (pda_cons pd_str (pda_cons (pd_ix (pd_v (pv 1)) pd_int (fun _ _ => rfl)) pda_nil))) pda_nil)))) pda_nil))) (pd_v (pv 3)) (fun _ _ => rfl))))) psd_nil) (psd_cons (psd_asg (ps_set (i := 4) sclaw.nd rfl (by first | exact Or.inl rfl | exact Or.inr rfl) (pd_kn cL_run hr (pda_cons (pd_v (pv 0)) (pda_cons pd_int (pda_cons (pd_v (pv 1)) (pda_cons pd_int pda_nil))))))) (psd_cons (psd_asg (ps_set (i := 5) sclaw.nd rfl (by first | exact Or.inl rfl | exact Or.inr rfl) (pd_ty call_list_of rc_list rfl hB.list (by decide +kernel) (pda_cons (pd_v (pv 4)) pda_nil)))) (psd_cons (psd_asg (ps_set (i := 6) sclaw.nd rfl (by first | exact Or.inl rfl | exact Or.inr rfl) (pd_kn cL_means hr (pda_cons (pd_v (pv 2)) (pda_cons (pd_v (pv 4)) pda_nil))))) (psd_cons (psd_for gd_1 PassesOwn.never rfl (pdi_range1 rfl hB.range (pd_bi call_lenD0 rc_len rfl hB.len (by decide +kernel) (pda_cons (pd_v (pv 4)) pda_nil))) (pg_name (i := 7) sclaw.nd rfl (by first | exact Or.inl rfl | exact Or.inr rfl)) (psd_cons (psd_asg (ps_set (i := 8) sclaw.nd rfl (by first | exact Or.inl rfl | exact Or.inr rfl) (pd_kn cholds hr (pda_cons (pd_v (pv 2)) (pda_cons (pd_v (pv 5)) (pda_cons (pd_v (pv 7)) pda_nil)))))) (psd_one (psd_if (pdt_w (pdw_or (pdt_not (pdt_val (pd_isi rfl hB.isinstance (pd_v (pv 8)) (pe_bltn rfl hB.bool (by decide +kernel) rfl)))) (pdw_or1 (pdt_cmp (op_neA hr.units) rd_ne (pd_v (pv 8)) (pd_ix (pd_v (pv 6)) (pd_v (pv 7)) (fun _ _ => rfl)) (nomark _))))) (psd_one (psd_ret pd_bl)) psd_nil)))) (psd_one (psd_ret (pd_cmp (op_eqA hr.units) rd_eq (pd_v (pv 5)) (pd_v (pv 4)) (nomark _))))))))))))
end
end My


namespace My
open PySem L2 Dn
/-! ### statements -/
inductive Sm | mark (m : Str) | yes | not (s : Sm) | and (s t : Sm) | or (s t : Sm) | nxt (s : Sm) | unt (s t : Sm) | wth (k : Int) (s : Sm) | bef (s : Sm) | sin (s t : Sm)
  deriving DecidableEq
def enc : Sm → PyData
  | .mark m => .tuple [.str "mark", .str m]
  | .yes => .tuple [.str "yes"]
  | .not s => .tuple [.str "not", enc s]
  | .and s t => .tuple [.str "and", enc s, enc t]
  | .or s t => .tuple [.str "or", enc s, enc t]
  | .nxt s => .tuple [.str "next", enc s]
  | .unt s t => .tuple [.str "until", enc s, enc t]
  | .wth k s => .tuple [.str "within", .int k, enc s]
  | .bef s => .tuple [.str "before", enc s]
  | .sin s t => .tuple [.str "since", enc s, enc t]
theorem tyN_enc (s : Sm) : tyN (enc s) = "tuple" := by cases s <;> rfl
@[simp] def Sm.depth : Sm → Nat
  | .mark _ | .yes => 1
  | .not s | .nxt s | .wth _ s | .bef s => s.depth + 1
  | .and s t | .or s t | .unt s t | .sin s t => max s.depth t.depth + 1
@[simp] def Sm.parts : Sm → List Sm
  | .mark _ | .yes => []
  | .not s | .nxt s | .wth _ s | .bef s => [s]
  | .and s t | .or s t | .unt s t | .sin s t => [s, t]
@[simp] def Sm.word : Sm → Str
  | .mark _ => "mark"
  | .yes => "yes"
  | .not _ => "not"
  | .and _ _ => "and"
  | .or _ _ => "or"
  | .nxt _ => "next"
  | .unt _ _ => "until"
  | .wth _ _ => "within"
  | .bef _ => "before"
  | .sin _ _ => "since"
/-- what stands behind the word -/
def Sm.tail : Sm → List PyData
  | .mark m => [.str m]
  | .yes => []
  | .wth k s => [.int k, enc s]
  | s => s.parts.map enc
theorem enc_eq (s : Sm) : enc s = .tuple (.str s.word :: s.tail) := by cases s <;> rfl
/-! ### rows -/
def sinR : List Bool → List Bool → Bool → List Bool
  | a :: as, b :: bs, h => (b || (a && h)) :: sinR as bs (b || (a && h))
  | _, _, _ => []
def wthR (k : Int) (r : List Bool) : List Bool := (List.range r.length).map fun (i : Nat) => (cutL r (some (i : Int)) (some ((i : Int) + k + 1))).any id
def rows : Sm → List Str → List Bool
  | .mark m, r => r.map fun x => sEq x m
  | .yes, r => r.map fun _ => true
  | .not s, r => (rows s r).map (!·)
  | .and s t, r => List.zipWith (· && ·) (rows s r) (rows t r)
  | .or s t, r => List.zipWith (· || ·) (rows s r) (rows t r)
  | .nxt s, r => (rows s r ++ [false]).drop 1
  | .unt s t, r => (sinR (rows s r).reverse (rows t r).reverse false).reverse
  | .wth k s, r => wthR k (rows s r)
  | .bef s, r => (false :: rows s r).dropLast
  | .sin s t, r => sinR (rows s r) (rows t r) false
theorem sinR_len : ∀ (a b : List Bool) (h : Bool), a.length = b.length → (sinR a b h).length = a.length
  | [], _, _, _ => by simp [sinR]
  | a :: as, [], _, h => by simp at h
  | a :: as, b :: bs, h, e => by simp [sinR, sinR_len as bs _ (by simpa using e)]
theorem rows_len : ∀ (s : Sm) (r : List Str), (rows s r).length = r.length
  | .mark m, r => by simp [rows]
  | .yes, r => by simp [rows]
  | .not s, r => by simp [rows, rows_len s r]
  | .and s t, r => by simp [rows, rows_len s r, rows_len t r]
  | .or s t, r => by simp [rows, rows_len s r, rows_len t r]
  | .nxt s, r => by simp [rows, rows_len s r]
  | .unt s t, r => by simp [rows, sinR_len, rows_len s r, rows_len t r]
  | .wth k s, r => by simp [rows, wthR, rows_len s r]
  | .bef s, r => by simp [rows, rows_len s r]
  | .sin s t, r => by simp [rows, sinR_len, rows_len s r, rows_len t r]
/-! ### the data of runs and rows -/
def dS (r : List Str) : PyData := .list (r.map .str)
def dB (r : List Bool) : PyData := .list (r.map .bool)
theorem kit_tt : kitB "tuple" "tuple" = some true := by decide +kernel
theorem kit_st : kitB "str" "tuple" = some false := by decide +kernel
theorem kit_it : kitB "int" "tuple" = some false := by decide +kernel
@[simp] theorem isi_enc (s : Sm) : isiD "tuple" (enc s) = some (.bool true) := by unfold isiD; rw [tyN_enc, kit_tt]; rfl
@[simp] theorem isi_str (s : Str) : isiD "tuple" (.str s) = some (.bool false) := by unfold isiD; show (kitB "str" "tuple").map _ = _; rw [kit_st]; rfl
@[simp] theorem isi_int (i : Int) : isiD "tuple" (.int i) = some (.bool false) := by unfold isiD; show (kitB "int" "tuple").map _ = _; rw [kit_it]; rfl
@[simp] theorem sl_one (x : PyData) (xs : List PyData) : slD (some 1) none (.tuple (x :: xs)) = some (.tuple xs) := by
  have h : HT.sIx (x :: xs).length 0 (some 1) = 1 := by
    rw [show (1 : Int) = ((1 : Nat) : Int) from rfl, HT.sIx_nat]; simp
  unfold slD
  simp only [h]
  rw [if_pos (by omega)]
  unfold cutL
  rw [h, HT.sIx_none]
  simp
@[simp] theorem sl_enc (s : Sm) : slD (some 1) none (enc s) = some (.tuple s.tail) := by rw [enc_eq, sl_one]
@[simp] theorem ix_word (s : Sm) : ixD (enc s) (.int 0) = some (.str s.word) := by rw [enc_eq]; simp
@[simp] theorem ix_mark (m : Str) : ixD (enc (.mark m)) (.int 1) = some (.str m) := by simp [enc]
@[simp] theorem ix_wth (k : Int) (s : Sm) : ixD (enc (.wth k s)) (.int 1) = some (.int k) := by simp [enc]
/-! ### the program's rows -/
def partsF : List PyData → Option PyData := fnD 2 gparts_of
@[simp] theorem parts_eq (s : Sm) : partsF [enc s] = some (.list (s.parts.map enc)) := by
  unfold partsF
  cases s <;> simp [fnD_ap, startR, gparts_of, Sm.tail]
theorem since_go (x0 x1 : Option Sv) : ∀ (as bs : List Bool) (r : List PyData) (h : Bool) (y z : Option Sv), r.length + as.length ≤ 100000 → as.length = bs.length →
    ∃ h' y' z', forGo (b2 4 5) (gSeq (gSet 3 (fOr (fV 5) (fAnd (fV 4) (fV 3)))) (gApp 2 (fV 3))) (zipD (as.map .bool) (bs.map .bool)) [x0, x1, some (.own none r), some (.d (.bool h)), y, z] =
      some (.nx [x0, x1, some (.own none (r ++ (sinR as bs h).map .bool)), some (.d (.bool h')), y', z'])
  | [], bs, r, h, y, z, _, e => ⟨h, y, z, by simp [zipD, sinR]⟩
  | a :: as, [], r, h, y, z, _, e => by simp at e
  | a :: as, b :: bs, r, h, y, z, hl, e => by
    obtain ⟨h', y', z', q⟩ := since_go x0 x1 as bs (r ++ [.bool (b || (a && h))]) (b || (a && h)) (some (.d (.bool a))) (some (.d (.bool b))) (by simp at hl ⊢; omega) (by simpa using e)
    refine ⟨h', y', z', ?_⟩
    have e2 : zipD ((a :: as).map PyData.bool) ((b :: bs).map PyData.bool) = .tuple [.bool a, .bool b] :: zipD (as.map .bool) (bs.map .bool) := rfl
    have hr : r.length < 100000 := by simp at hl; omega
    rw [e2]
    simp [sinR, appO_some hr] at q ⊢
    exact q
def sinceF : List PyData → Option PyData := fnD 6 gsince
theorem since_eq (as bs : List Bool) (e : as.length = bs.length) (hl : as.length ≤ 1000) : sinceF [dB as, dB bs] = some (dB (sinR as bs false)) := by
  obtain ⟨h', y', z', q⟩ := since_go (some (.d (dB as))) (some (.d (dB bs))) as bs [] false none none (by simp; omega) e
  unfold sinceF
  simp [fnD_ap, startR, gsince, dB] at q ⊢
  rw [q]
  simp
/-- two rows joined, one by one -/
theorem zip_map (op : Bool → Bool → Bool) (F : Rho → Option PyData) (ρ : Rho) : ∀ (as bs : List Bool), as.length = bs.length → (∀ (a b : Bool) (ρ1 : Rho), b2 3 4 (.tuple [.bool a, .bool b]) ρ = some ρ1 → F ρ1 = some (.bool (op a b))) → lcGo (b2 3 4) tYesD F ρ (zipD (as.map .bool) (bs.map .bool)) = some ((List.zipWith op as bs).map .bool)
  | [], bs, e, _ => by simp [zipD]
  | a :: as, [], e, _ => by simp at e
  | a :: as, b :: bs, e, q => by
    have e2 : zipD ((a :: as).map PyData.bool) ((b :: bs).map PyData.bool) = .tuple [.bool a, .bool b] :: zipD (as.map .bool) (bs.map .bool) := rfl
    rw [e2, lcGo_c, b2_ap, lcB_some, q a b _ rfl, zip_map op F ρ as bs (by simpa using e) q]
    rfl
theorem zipD_len {as bs : List PyData} (e : as.length = bs.length) : (zipD as bs).length = as.length := by simp [zipD, e]
def twoF : List PyData → Option PyData := fnD 5 (grow_of_two sinceF)
theorem two_eq (w : Str) (as bs : List Bool) (e : as.length = bs.length) (hl : as.length ≤ 1000) : twoF [.str w, dB as, dB bs] = some (dB (if w = "and" then List.zipWith (· && ·) as bs else if w = "or" then List.zipWith (· || ·) as bs else if w = "since" then sinR as bs false else (sinR as.reverse bs.reverse false).reverse)) := by
  have hz : (zipD (as.map .bool) (bs.map .bool)).length ≤ 100000 := by rw [zipD_len (by simpa using e)]; simp; omega
  unfold twoF
  by_cases h1 : w = "and"
  · subst h1
    have q := zip_map (· && ·) (fAnd (fV 3) (fV 4)) [some (.d (.str "and")), some (.d (dB as)), some (.d (dB bs)), none, none] as bs e (by intro a b ρ1 h; simp at h; subst h; simp)
    simp [fnD_ap, startR, grow_of_two, dB, lcO_some hz] at q ⊢
    simp [q]
  by_cases h2 : w = "or"
  · subst h2
    have q := zip_map (· || ·) (fOr (fV 3) (fV 4)) [some (.d (.str "or")), some (.d (dB as)), some (.d (dB bs)), none, none] as bs e (by intro a b ρ1 h; simp at h; subst h; simp)
    simp [fnD_ap, startR, grow_of_two, dB, lcO_some hz] at q ⊢
    simp [q]
  by_cases h3 : w = "since"
  · subst h3
    have q := since_eq as bs e hl
    simp [fnD_ap, startR, grow_of_two, dB] at q ⊢
    simp [q]
  · have q := since_eq as.reverse bs.reverse (by simpa using e) (by simpa using hl)
    simp [fnD_ap, startR, grow_of_two, dB, sEq_ne h1, sEq_ne h2, sEq_ne h3, h1, h2, h3] at q ⊢
    simp [q]
def oneF : List PyData → Option PyData := fnD 3 grow_of_one
theorem cut_tail (x : Bool) (as : List Bool) : cutL (x :: as) none (some (-1)) = (x :: as).dropLast := by
  have h : HT.sIx (x :: as).length (x :: as).length (some (-1)) = as.length := by
    unfold HT.sIx
    simp
    omega
  unfold cutL
  rw [h, HT.sIx_none, List.dropLast_eq_take]
  simp
theorem cut_head (as : List Bool) (h0 : 0 < as.length) : cutL as (some 1) none = as.drop 1 := by
  have h : HT.sIx as.length 0 (some 1) = 1 := by
    rw [show (1 : Int) = ((1 : Nat) : Int) from rfl, HT.sIx_nat]; omega
  unfold cutL
  rw [h, HT.sIx_none, List.take_of_length_le (by simp)]
theorem cut_map (f : Bool → PyData) (as : List Bool) (l u : Option Int) : cutL (as.map f) l u = (cutL as l u).map f := by
  unfold cutL
  simp [List.map_drop, List.map_take]
theorem one_eq (w : Str) (as : List Bool) (hl : as.length ≤ 1000) : oneF [.str w, dB as] = some (dB (if w = "not" then as.map (!·) else if w = "next" then (as ++ [false]).drop 1 else (false :: as).dropLast)) := by
  unfold oneF
  by_cases h1 : w = "not"
  · subst h1
    have q := lc_map (bd := b1 2) (t := tYesD) (f := fNot (fV 2)) (ρ := [some (.d (.str "not")), some (.d (dB as)), none]) PyData.bool (fun b => .bool (!b)) as (by intro x _; exact ⟨_, rfl, rfl, by simp⟩)
    simp [fnD_ap, startR, grow_of_one, dB, lcO_some (show (as.map PyData.bool).length ≤ 100000 by simp; omega)] at q ⊢
    simp [q]
  by_cases h2 : w = "next"
  · subst h2
    have e : cutL (as.map PyData.bool ++ [.bool false]) (some 1) none = ((as ++ [false]).drop 1).map .bool := by
      rw [← cut_head _ (by simp), ← cut_map]; simp
    simp [fnD_ap, startR, grow_of_one, dB, addD_l (show (as.map PyData.bool).length + [PyData.bool false].length ≤ 100000 by simp; omega)]
    rw [e]; simp
  · have e : cutL (.bool false :: as.map PyData.bool) none (some (-1)) = ((false :: as).dropLast).map .bool := by
      rw [← cut_tail, ← cut_map]; simp
    simp [fnD_ap, startR, grow_of_one, dB, addD_l (show [PyData.bool false].length + (as.map PyData.bool).length ≤ 100000 by simp; omega), sEq_ne h1, sEq_ne h2, h1, h2]
    rw [e, List.map_dropLast]; rfl
/-! ### row_of -/
def rowF : Nat → List PyData → Option PyData
  | 0 => fun _ => none
  | n + 1 => fnD 7 (grow_of partsF (rowF n) oneF twoF)
theorem rowF_mark (r : List Str) (hr : r.length ≤ 1000) (n : Nat) (m : Str) : rowF (n + 1) [enc (.mark m), dS r] = some (dB (rows (.mark m) r)) := by
  have q := lc_map (bd := b1 3) (t := tYesD) (f := f2 eqP (fV 3) (f2 ixD (fV 0) (fC (.int 1)))) (ρ := [some (.d (enc (.mark m))), some (.d (dS r)), some (.d (.str "mark")), none, none, none, none]) PyData.str (fun x => .bool (sEq x m)) r (by intro x _; exact ⟨_, rfl, rfl, by simp⟩)
  simp [rowF, fnD_ap, startR, grow_of, dS, dB, rows, lcO_some (show (r.map PyData.str).length ≤ 100000 by simp; omega)] at q ⊢
  simp [q]
theorem rowF_yes (r : List Str) (hr : r.length ≤ 1000) (n : Nat) : rowF (n + 1) [enc (.yes), dS r] = some (dB (rows (.yes) r)) := by
  have e : mulD (.list [.bool true]) (.int (r.length : Int)) = some (.list (r.map fun _ => .bool true)) := by
    unfold mulD
    simp only
    have hb : (bigL : Nat) = 100000 := rfl
    rw [if_pos (by simp only [hb]; simp; omega)]
    simp [List.map_const']
  simp [rowF, fnD_ap, startR, grow_of, dS, dB, rows, e]
theorem rowF_not (r : List Str) (hr : r.length ≤ 1000) (n : Nat) (s : Sm) (ih : rowF n [enc s, dS r] = some (dB (rows s r))) : rowF (n + 1) [enc (.not s), dS r] = some (dB (rows (.not s) r)) := by
  have o := one_eq "not" (rows s r) (by rw [rows_len]; exact hr)
  simp at o
  simp [rowF, fnD_ap, startR, grow_of, rows, ih, o]
theorem rowF_nxt (r : List Str) (hr : r.length ≤ 1000) (n : Nat) (s : Sm) (ih : rowF n [enc s, dS r] = some (dB (rows s r))) : rowF (n + 1) [enc (.nxt s), dS r] = some (dB (rows (.nxt s) r)) := by
  have o := one_eq "next" (rows s r) (by rw [rows_len]; exact hr)
  simp at o
  simp [rowF, fnD_ap, startR, grow_of, rows, ih, o]
theorem rowF_bef (r : List Str) (hr : r.length ≤ 1000) (n : Nat) (s : Sm) (ih : rowF n [enc s, dS r] = some (dB (rows s r))) : rowF (n + 1) [enc (.bef s), dS r] = some (dB (rows (.bef s) r)) := by
  have o := one_eq "before" (rows s r) (by rw [rows_len]; exact hr)
  simp at o
  simp [rowF, fnD_ap, startR, grow_of, rows, ih, o]
theorem wth_at (k : Int) (a : List Bool) (i : Nat) (x0 x1 x2 x3 x5 : Option Sv) (s : Sm) : (fCl (one1 anyD) (fCons (fSl (f2 ixD (fV 4) (fC (.int 0))) (fO (fV 6)) (fO (f2 addD (f2 addD (fV 6) (f2 ixD (fV 0) (fC (.int 1)))) (fC (.int 1))))) fNil)) [some (.d (enc (.wth k s))), x1, x2, x3, some (.d (.list [dB a])), x5, some (.d (.int (i : Int)))] =
    some (.bool ((cutL a (some (i : Int)) (some ((i : Int) + k + 1))).any id)) := by
  simp only [fCl_ap, fCons_ap, fSl_ap, f2_ap, fV_ap, fC_ap, fO_ap, fNil_ap]
  simp only [List.getElem?_cons_succ, List.getElem?_cons_zero, slot_d, ap2_some, ix_wth, ixD_l, atI_0, intO_some, addD_i, dB, slO_some, slD_l, cut_map, consO_some, clO_some, one1_ap, anyD_m]
theorem wth_go (k : Int) (a : List Bool) (n : Nat) (x1 x2 x3 x5 : Option Sv) (s : Sm) : lcGo (b1 6) tYesD (fCl (one1 anyD) (fCons (fSl (f2 ixD (fV 4) (fC (.int 0))) (fO (fV 6)) (fO (f2 addD (f2 addD (fV 6) (f2 ixD (fV 0) (fC (.int 1)))) (fC (.int 1))))) fNil))
    [some (.d (enc (.wth k s))), x1, x2, x3, some (.d (.list [dB a])), x5, none] ((List.range n).map fun (i : Nat) => .int (i : Int)) = some ((List.range n).map fun (i : Nat) => .bool ((cutL a (some (i : Int)) (some ((i : Int) + k + 1))).any id)) :=
  lc_map (fun (i : Nat) => PyData.int (i : Int)) (fun (i : Nat) => PyData.bool ((cutL a (some (i : Int)) (some ((i : Int) + k + 1))).any id)) (List.range n) fun i _ => ⟨_, rfl, rfl, wth_at k a i none x1 x2 x3 x5 s⟩
theorem range_n (r : List Str) (hr : r.length ≤ 1000) : range1D (.int (r.length : Int)) = some ((List.range r.length).map fun (i : Nat) => PyData.int (i : Int)) := by
  rw [range1D_n (by omega)]
  simp [Dn.intsFrom]
theorem range_len (n : Nat) (h : n ≤ 1000) : ((List.range n).map fun (i : Nat) => PyData.int (i : Int)).length ≤ 100000 := by simp; omega
theorem rowF_wth (r : List Str) (hr : r.length ≤ 1000) (n : Nat) (k : Int) (s : Sm) (ih : rowF n [enc s, dS r] = some (dB (rows s r))) : rowF (n + 1) [enc (.wth k s), dS r] = some (dB (rows (.wth k s) r)) := by
  simp only [dS] at ih ⊢
  simp [rowF, fnD_ap, startR, grow_of, ih]
  rw [range_n r hr, lcO_some (range_len r.length hr), wth_go]
  simp only [Option.map_some, retO_some, seqO_rt, retD_rt]
  rw [rows, wthR, rows_len]
  simp only [dB, List.map_map, Function.comp_def]
theorem rowF_and (r : List Str) (hr : r.length ≤ 1000) (n : Nat) (s : Sm) (t : Sm) (i1 : rowF n [enc s, dS r] = some (dB (rows s r))) (i2 : rowF n [enc t, dS r] = some (dB (rows t r))) : rowF (n + 1) [enc (.and s t), dS r] = some (dB (rows (.and s t) r)) := by
  have o := two_eq "and" (rows s r) (rows t r) (by rw [rows_len, rows_len]) (by rw [rows_len]; exact hr)
  simp at o
  simp [rowF, fnD_ap, startR, grow_of, rows, i1, i2, o]
theorem rowF_or (r : List Str) (hr : r.length ≤ 1000) (n : Nat) (s : Sm) (t : Sm) (i1 : rowF n [enc s, dS r] = some (dB (rows s r))) (i2 : rowF n [enc t, dS r] = some (dB (rows t r))) : rowF (n + 1) [enc (.or s t), dS r] = some (dB (rows (.or s t) r)) := by
  have o := two_eq "or" (rows s r) (rows t r) (by rw [rows_len, rows_len]) (by rw [rows_len]; exact hr)
  simp at o
  simp [rowF, fnD_ap, startR, grow_of, rows, i1, i2, o]
theorem rowF_unt (r : List Str) (hr : r.length ≤ 1000) (n : Nat) (s : Sm) (t : Sm) (i1 : rowF n [enc s, dS r] = some (dB (rows s r))) (i2 : rowF n [enc t, dS r] = some (dB (rows t r))) : rowF (n + 1) [enc (.unt s t), dS r] = some (dB (rows (.unt s t) r)) := by
  have o := two_eq "until" (rows s r) (rows t r) (by rw [rows_len, rows_len]) (by rw [rows_len]; exact hr)
  simp at o
  simp [rowF, fnD_ap, startR, grow_of, rows, i1, i2, o]
theorem rowF_sin (r : List Str) (hr : r.length ≤ 1000) (n : Nat) (s : Sm) (t : Sm) (i1 : rowF n [enc s, dS r] = some (dB (rows s r))) (i2 : rowF n [enc t, dS r] = some (dB (rows t r))) : rowF (n + 1) [enc (.sin s t), dS r] = some (dB (rows (.sin s t) r)) := by
  have o := two_eq "since" (rows s r) (rows t r) (by rw [rows_len, rows_len]) (by rw [rows_len]; exact hr)
  simp at o
  simp [rowF, fnD_ap, startR, grow_of, rows, i1, i2, o]
theorem rowF_eq (r : List Str) (hr : r.length ≤ 1000) (s : Sm) : ∀ n : Nat, s.depth ≤ n → rowF n [enc s, dS r] = some (dB (rows s r)) := by
  have no : ∀ s : Sm, ¬ s.depth ≤ 0 := fun s => by cases s <;> simp
  induction s with
  | mark m => intro n hd; cases n with | zero => exact absurd hd (no _) | succ n => exact rowF_mark r hr n m
  | yes => intro n hd; cases n with | zero => exact absurd hd (no _) | succ n => exact rowF_yes r hr n
  | not s ihs => intro n hd; cases n with | zero => exact absurd hd (no _) | succ n => exact rowF_not r hr n s (ihs n (by simpa using hd))
  | nxt s ihs => intro n hd; cases n with | zero => exact absurd hd (no _) | succ n => exact rowF_nxt r hr n s (ihs n (by simpa using hd))
  | bef s ihs => intro n hd; cases n with | zero => exact absurd hd (no _) | succ n => exact rowF_bef r hr n s (ihs n (by simpa using hd))
  | wth k s ihs => intro n hd; cases n with | zero => exact absurd hd (no _) | succ n => exact rowF_wth r hr n k s (ihs n (by simpa using hd))
  | and s t ihs iht => intro n hd; cases n with | zero => exact absurd hd (no _) | succ n => exact rowF_and r hr n s t (ihs n (by simp at hd; omega)) (iht n (by simp at hd; omega))
  | or s t ihs iht => intro n hd; cases n with | zero => exact absurd hd (no _) | succ n => exact rowF_or r hr n s t (ihs n (by simp at hd; omega)) (iht n (by simp at hd; omega))
  | unt s t ihs iht => intro n hd; cases n with | zero => exact absurd hd (no _) | succ n => exact rowF_unt r hr n s t (ihs n (by simp at hd; omega)) (iht n (by simp at hd; omega))
  | sin s t ihs iht => intro n hd; cases n with | zero => exact absurd hd (no _) | succ n => exact rowF_sin r hr n s t (ihs n (by simp at hd; omega)) (iht n (by simp at hd; omega))
end My

namespace My
open PySem L2 Dn TL
/-! ### texts of letters -/
def LET : Str := "abcdefghijklmnopqrstuvwxyz"
theorem tl_LET : tl LET = (List.range 26).map (97 + ·) := by decide +kernel
theorem len_LET : LET.length = 26 := by rw [len_tl, tl_LET]; simp
def one (c : Nat) : Str := ⟨#[c]⟩
@[simp] theorem tl_one (c : Nat) : tl (one c) = [c] := rfl
@[simp] theorem len_one (c : Nat) : (one c).length = 1 := rfl
theorem ix_LET (z : Int) : ixD (.str LET) (.int (z % 26)) = some (.str (one (97 + (z % 26).toNat))) := by
  have h0 : 0 ≤ z % 26 := Int.emod_nonneg _ (by decide)
  have h1 : z % 26 < 26 := Int.emod_lt_of_pos _ (by decide)
  have e : atI LET.cps.toList (z % 26) = some (97 + (z % 26).toNat) := by
    have q : atI LET.cps.toList (((z % 26).toNat : Nat) : Int) = some (97 + (z % 26).toNat) := by
      apply atI_nat
      have : LET.cps.toList = (List.range 26).map (97 + ·) := tl_LET
      rw [this, List.getElem?_map, List.getElem?_range (by omega)]
      rfl
    rwa [show (((z % 26).toNat : Nat) : Int) = z % 26 by omega] at q
  unfold ixD
  simp only
  rw [if_pos (by rw [len_LET]; decide), e]
  rfl
/-- 1 to 6 small letters -/
structure Ltr (z : Str) : Prop where
  lo : 1 ≤ z.length
  hi : z.length ≤ 6
  ab : ∀ c ∈ tl z, 97 ≤ c ∧ c ≤ 122
theorem len_app (a b : Str) : (a ++ b).length = a.length + b.length := by rw [len_tl, tl_append, len_tl, len_tl, List.length_append]
theorem tl_cut (z : Str) (l u : Option Int) : tl (cutS z l u) = cutL (tl z) l u := by
  unfold cutS cutL
  rw [len_tl]
theorem cut_to (z : Str) (k : Nat) : tl (cutS z none (some (k : Int))) = (tl z).take k := by
  rw [tl_cut]
  unfold cutL
  rw [HT.sIx_nat, HT.sIx_none]
  simp only [List.drop_zero, Nat.sub_zero]
  rcases Nat.le_total k (tl z).length with h | h
  · rw [Nat.min_eq_left h]
  · rw [Nat.min_eq_right h, List.take_of_length_le (Nat.le_refl _), List.take_of_length_le h]
theorem cut_mid (z : Str) (j k : Nat) (h : k ≤ (tl z).length) : tl (cutS z (some (j : Int)) (some (k : Int))) = ((tl z).drop j).take (k - j) := by
  rw [tl_cut]
  unfold cutL
  rw [HT.sIx_nat, HT.sIx_nat, Nat.min_eq_left h]
  rcases Nat.le_total j (tl z).length with h2 | h2
  · rw [Nat.min_eq_left h2]
  · rw [Nat.min_eq_right h2, List.drop_of_length_le (Nat.le_refl _), List.drop_of_length_le h2]
    simp
theorem slD_s {z : Str} {l u : Option Int} (h : z.length ≤ 100000) : slD l u (.str z) = some (.str (cutS z l u)) := if_pos h
/-! ### the names -/
def codes (c : Int) : List Nat := (List.range 6).map fun (j : Nat) => 97 + ((c / 7 + 5 * (j : Int)) % 26).toNat
def rest (c : Int) : Str := Txt.join (Str.ofString "") ((codes c).map one)
theorem tl_rest (c : Int) : tl (rest c) = codes c := by
  unfold rest
  rw [join_eq, tl_join]
  simp only [codes, List.range, List.range.loop, List.map_cons, List.map_nil, tl_one, joinL]
  have e : tl (Str.ofString "") = [] := rfl
  simp [e]
theorem len_rest (c : Int) : (rest c).length = 6 := by rw [len_tl, tl_rest]; simp [codes]
theorem codes_ab (c : Int) : ∀ x ∈ codes c, 97 ≤ x ∧ x ≤ 122 := by
  intro x hx
  simp only [codes, List.mem_map] at hx
  obtain ⟨j, _, rfl⟩ := hx
  have h0 : 0 ≤ (c / 7 + 5 * (j : Int)) % 26 := Int.emod_nonneg _ (by decide)
  have h1 : (c / 7 + 5 * (j : Int)) % 26 < 26 := Int.emod_lt_of_pos _ (by decide)
  omega
theorem range3 : range1D (.int 3) = some [.int 0, .int 1, .int 2] := by
  have := range1D_n (m := 3) (by decide)
  simpa [Dn.intsFrom, List.range, List.range.loop] using this
theorem range6 : range1D (.int 6) = some ((List.range 6).map fun (i : Nat) => .int (i : Int)) := by
  have := range1D_n (m := 6) (by decide)
  simpa [Dn.intsFrom] using this
def oneS (c : Int) : List PyData := ((codes c).map one).map .str
def namesF : List PyData → Option PyData := fnD 9 gL_names
theorem letters_go (c : Int) (x4 x5 x6 x7 x8 : Option Sv) : lcGo (b1 3) tYesD (f2 ixD (fV 1) (f2 modD (f2 addD (f2 fdivD (fV 0) (fC (.int 7))) (f2 mulD (fC (.int 5)) (fV 3))) (fC (.int 26)))) [some (.d (.int c)), some (.d (.str LET)), none, none, x4, x5, x6, x7, x8] ((List.range 6).map fun (i : Nat) => .int (i : Int)) = some (oneS c) := by
  have q := lc_map (bd := b1 3) (t := tYesD) (f := f2 ixD (fV 1) (f2 modD (f2 addD (f2 fdivD (fV 0) (fC (.int 7))) (f2 mulD (fC (.int 5)) (fV 3))) (fC (.int 26)))) (ρ := [some (.d (.int c)), some (.d (.str LET)), none, none, x4, x5, x6, x7, x8]) (fun (i : Nat) => PyData.int (i : Int)) (fun (j : Nat) => .str (one (97 + ((c / 7 + 5 * (j : Int)) % 26).toNat))) (List.range 6)
    (by
      intro j hj
      refine ⟨_, rfl, rfl, ?_⟩
      simp only [f2_ap, fV_ap, fC_ap, List.getElem?_cons_succ, List.getElem?_cons_zero, List.set_cons_succ, List.set_cons_zero, slot_d, ap2_some]
      rw [fdivD_i (by decide), mulD_i (.inl (by decide))]
      simp only [ap2_some, addD_i]
      rw [modD_i (by decide)]
      simp only [ap2_some]
      rw [ix_LET])
  rw [q]
  simp [oneS, codes, Function.comp_def]
theorem join_D (ys : List Str) (h : (ys.map (·.length)).sum ≤ 100000) : joinD (.str (Str.ofString "")) [.list (ys.map .str)] = some (.str (Txt.join (Str.ofString "") ys)) := by
  unfold joinD
  simp only
  rw [strsD_map, Option.bind_some, if_pos (by
    have : (Str.ofString "").length = 0 := rfl
    rw [this]
    simpa using h)]
theorem ltr_take (c : Int) (k : Nat) (h1 : 1 ≤ k) (h2 : k ≤ 6) : Ltr (cutS (rest c) none (some (k : Int))) := by
  have e := cut_to (rest c) k
  rw [tl_rest] at e
  refine ⟨?_, ?_, ?_⟩
  · rw [len_tl, e]; simp [codes]; omega
  · rw [len_tl, e]; simp; omega
  · intro x hx
    rw [e] at hx
    exact codes_ab c x (List.mem_of_mem_take hx)
theorem names_eq (c : Int) : ∃ a b d, namesF [.int c] = some (dS [a, b, d]) ∧ Ltr a ∧ Ltr b ∧ Ltr d := by
  have hj : joinD (.str (Str.ofString "")) [.list (oneS c)] = some (.str (rest c)) := join_D _ (by simp [codes, List.range, List.range.loop])
  have hr : (rest c).length ≤ 100000 := by rw [len_rest]; decide
  have e7 : fdivD (.int c) (.int 7) = some (.int (c / 7)) := fdivD_i (by decide)
  have e3 : fdivD (.int c) (.int 3) = some (.int (c / 3)) := fdivD_i (by decide)
  have m3 : modD (.int c) (.int 3) = some (.int (c % 3)) := modD_i (by decide)
  have go := letters_go c none none none none none
  rw [LET] at go
  by_cases h : c % 3 = 2
  · -- each the beginning of the next
    have m4 : modD (.int (c / 3)) (.int 4) = some (.int (c / 3 % 4)) := modD_i (by decide)
    have k0 : 0 ≤ c / 3 % 4 := Int.emod_nonneg _ (by decide)
    have k1 : c / 3 % 4 < 4 := Int.emod_lt_of_pos _ (by decide)
    obtain ⟨k, hk⟩ : ∃ k : Nat, 1 + c / 3 % 4 = (k : Int) := ⟨(1 + c / 3 % 4).toNat, by omega⟩
    refine ⟨cutS (rest c) none (some (k : Int)), cutS (rest c) none (some ((k + 1 : Nat) : Int)), cutS (rest c) none (some ((k + 2 : Nat) : Int)), ?_, ltr_take c _ (by omega) (by omega), ltr_take c _ (by omega) (by omega), ltr_take c _ (by omega) (by omega)⟩
    have s1 : slD none (some (k : Int)) (.str (rest c)) = some (.str (cutS (rest c) none (some (k : Int)))) := slD_s hr
    have s2 : slD none (some ((k : Int) + 1)) (.str (rest c)) = some (.str (cutS (rest c) none (some ((k : Int) + 1)))) := slD_s hr
    have s3 : slD none (some ((k : Int) + 2)) (.str (rest c)) = some (.str (cutS (rest c) none (some ((k : Int) + 2)))) := slD_s hr
    have l3 : ∀ (bd : PyData → Rho → Option Rho) (t : Rho → Option Bool) (f : Rho → Option PyData) (ρ : Rho) (a b d : PyData), lcO bd t f ρ (some [a, b, d]) = (lcGo bd t f ρ [a, b, d]).map .list := fun bd t f ρ a b d => lcO_some (by simp)
    unfold namesF
    simp [fnD_ap, startR, gL_names, range6, lcO_some (show ((List.range 6).map fun (i : Nat) => PyData.int (i : Int)).length ≤ 100000 by simp), go, hj, m3, h, e3, m4, range3, hk, l3, s1, s2, s3, dS]
  · -- alike but at one place
    have m6 : modD (.int (c / 3)) (.int 6) = some (.int (c / 3 % 6)) := modD_i (by decide)
    have e18 : fdivD (.int c) (.int 18) = some (.int (c / 18)) := fdivD_i (by decide)
    have e90 : fdivD (.int c) (.int 90) = some (.int (c / 90)) := fdivD_i (by decide)
    have z0 : 0 ≤ c / 3 % 6 := Int.emod_nonneg _ (by decide)
    have z1 : c / 3 % 6 < 6 := Int.emod_lt_of_pos _ (by decide)
    have ms : modD (.int (c / 18)) (.int (c / 3 % 6 + 1)) = some (.int (c / 18 % (c / 3 % 6 + 1))) := modD_i (by omega)
    have a0 : 0 ≤ c / 18 % (c / 3 % 6 + 1) := Int.emod_nonneg _ (by omega)
    have a1 : c / 18 % (c / 3 % 6 + 1) < c / 3 % 6 + 1 := Int.emod_lt_of_pos _ (by omega)
    obtain ⟨n, hn⟩ : ∃ n : Nat, c / 3 % 6 = (n : Int) := ⟨(c / 3 % 6).toNat, by omega⟩
    obtain ⟨k, hk⟩ : ∃ k : Nat, c / 18 % (c / 3 % 6 + 1) = (k : Int) := ⟨(c / 18 % (c / 3 % 6 + 1)).toNat, by omega⟩
    rw [hk] at ms a1
    rw [hn] at ms m6 a1 z1
    have s1 : slD none (some (k : Int)) (.str (rest c)) = some (.str (cutS (rest c) none (some (k : Int)))) := slD_s hr
    have s2 : slD (some (k : Int)) (some (n : Int)) (.str (rest c)) = some (.str (cutS (rest c) (some (k : Int)) (some (n : Int)))) := slD_s hr
    have la : (cutS (rest c) none (some (k : Int))).length = k := by
      rw [len_tl, cut_to, tl_rest]; simp [codes]; omega
    have lb : (cutS (rest c) (some (k : Int)) (some (n : Int))).length = n - k := by
      rw [len_tl, cut_mid _ _ _ (by rw [tl_rest]; simp [codes]; omega), tl_rest]; simp [codes]; omega
    have mk : ∀ z : Int, ∃ x : Str, Ltr x ∧ addD (.str (cutS (rest c) none (some (k : Int)))) (.str (one (97 + (z % 26).toNat))) = some (.str (cutS (rest c) none (some (k : Int)) ++ one (97 + (z % 26).toNat))) ∧
        addD (.str (cutS (rest c) none (some (k : Int)) ++ one (97 + (z % 26).toNat))) (.str (cutS (rest c) (some (k : Int)) (some (n : Int)))) = some (.str x) := by
      intro z
      have h0 : 0 ≤ z % 26 := Int.emod_nonneg _ (by decide)
      have h1 : z % 26 < 26 := Int.emod_lt_of_pos _ (by decide)
      refine ⟨_, ?_, addD_s (by rw [la, len_one]; omega), addD_s (by rw [len_app, la, lb, len_one]; omega)⟩
      refine ⟨by rw [len_app, len_app, len_one]; omega, by rw [len_app, len_app, la, lb, len_one]; omega, ?_⟩
      intro x hx
      rw [tl_append, tl_append, cut_to, cut_mid _ _ _ (by rw [tl_rest]; simp [codes]; omega), tl_rest, List.mem_append, List.mem_append] at hx
      rcases hx with (hx | hx) | hx
      · exact codes_ab c x (List.mem_of_mem_take hx)
      · rw [tl_one, List.mem_singleton] at hx; omega
      · exact codes_ab c x (List.mem_of_mem_drop (List.mem_of_mem_take hx))
    obtain ⟨x0, hx0, p0, q0⟩ := mk (c / 90)
    obtain ⟨x1, hx1, p1, q1⟩ := mk (c / 90 + 7)
    obtain ⟨x2, hx2, p2, q2⟩ := mk (c / 90 + 14)
    refine ⟨x0, x1, x2, ?_, hx0, hx1, hx2⟩
    have t0 := ix_LET (c / 90)
    have t1 := ix_LET (c / 90 + 7)
    have t2 := ix_LET (c / 90 + 14)
    have u0 : mulD (.int 7) (.int 0) = some (.int 0) := by rw [mulD_i (.inl (by decide))]; rfl
    have u1 : mulD (.int 7) (.int 1) = some (.int 7) := by rw [mulD_i (.inl (by decide))]; rfl
    have u2 : mulD (.int 7) (.int 2) = some (.int 14) := by rw [mulD_i (.inl (by decide))]; rfl
    have mm : ∀ z : Int, modD (.int z) (.int 26) = some (.int (z % 26)) := fun z => modD_i (by decide)
    have ap : ∀ (ρ : Rho) (xs : List PyData) (y : PyData), xs.length ≤ 5 → appO 7 ρ (some (some (.own none xs))) (some y) = some (.nx (ρ.set 7 (some (.own none (xs ++ [y]))))) := fun ρ xs y h => appO_some (by omega)
    rw [LET] at t0 t1 t2
    unfold namesF
    simp [fnD_ap, startR, gL_names, range6, lcO_some (show ((List.range 6).map fun (i : Nat) => PyData.int (i : Int)).length ≤ 100000 by simp), go, hj, m3, h, e3, m6, hn, e18, ms, range3, e90, u0, u1, u2, mm, t0, t1, t2, s1, s2, p0, p1, p2, q0, q1, q2, ap, dS]
end My

namespace My
open PySem L2 Dn TL
/-! ### the law's rows -/
theorem until_go (x0 x1 : Option Sv) : ∀ (as bs : List Bool) (r : List PyData) (h : Bool) (y z : Option Sv), r.length + as.length ≤ 100000 → as.length = bs.length →
    ∃ h' y' z', forGo (b2 4 5) (gSeq (gSet 3 (fOr (fV 5) (fAnd (fV 4) (fV 3)))) (gApp 2 (fV 3))) (zipD (as.map .bool) (bs.map .bool)) [x0, x1, some (.own none r), some (.d (.bool h)), y, z] =
      some (.nx [x0, x1, some (.own none (r ++ (sinR as bs h).map .bool)), some (.d (.bool h')), y', z']) := since_go x0 x1
def untilF : List PyData → Option PyData := fnD 6 gL_until
theorem until_eq (as bs : List Bool) (e : as.length = bs.length) (hl : as.length ≤ 1000) : untilF [dB as, dB bs] = some (dB (sinR as bs false)) := since_eq as bs e hl
theorem shaped_bools (bs : List Bool) : SeqAt.shaped (.list (bs.map .bool)) = true := by
  have h1 : PyData.canLayAll0 (bs.map .bool) = true := by
    induction bs with
    | nil => simp [PyData.canLayAll0]
    | cons b r ih => simp [PyData.canLayAll0, PyData.canLay0, ih]
  have h2 : PyData.depthAll (bs.map .bool) = 0 := by
    induction bs with
    | nil => simp [PyData.depthAll]
    | cons b r ih => simp [PyData.depthAll, PyData.depth]; exact ih (by simpa [PyData.canLayAll0, PyData.canLay0] using h1)
  simp [SeqAt.shaped, PyData.canLay0, PyData.depth, h1, h2]
theorem in_bools (bs : List Bool) : inP (.bool true) (.list (bs.map .bool)) = some (.bool (bs.any id)) := by
  have h0 : SeqAt.shaped (.bool true) = true := by simp [SeqAt.shaped, PyData.canLay0, PyData.depth]
  have e : (bs.map PyData.bool).any (fun z => PyData.eqv z (.bool true)) = bs.any id := by
    induction bs with
    | nil => rfl
    | cons b r ih => rw [List.map_cons, List.any_cons, List.any_cons, ih]; cases b <;> simp [PyData.eqv]
  unfold inP inD
  simp only
  rw [h0, shaped_bools, e]
  rfl
theorem zip_map' (op : Bool → Bool → Bool) (F : Rho → Option PyData) (ρ : Rho) : ∀ (as bs : List Bool), as.length = bs.length → (∀ (a b : Bool) (ρ1 : Rho), b2 6 7 (.tuple [.bool a, .bool b]) ρ = some ρ1 → F ρ1 = some (.bool (op a b))) → lcGo (b2 6 7) tYesD F ρ (zipD (as.map .bool) (bs.map .bool)) = some ((List.zipWith op as bs).map .bool)
  | [], bs, e, _ => by simp [zipD]
  | a :: as, [], e, _ => by simp at e
  | a :: as, b :: bs, e, q => by
    have e2 : zipD ((a :: as).map PyData.bool) ((b :: bs).map PyData.bool) = .tuple [.bool a, .bool b] :: zipD (as.map .bool) (bs.map .bool) := rfl
    rw [e2, lcGo_c, b2_ap, lcB_some, q a b _ rfl, zip_map' op F ρ as bs (by simpa using e) q]
    rfl
def meansF : Nat → List PyData → Option PyData
  | 0 => fun _ => none
  | n + 1 => fnD 9 (gL_means (meansF n) untilF)
section
variable (r : List Str) (hr : r.length ≤ 1000) (n : Nat)
include hr
theorem meansF_mark (m : Str) : meansF (n + 1) [enc (.mark m), dS r] = some (dB (rows (.mark m) r)) := by
  have q := lc_map (bd := b1 3) (t := tYesD) (f := f2 eqP (fV 3) (f2 ixD (fV 0) (fC (.int 1)))) (ρ := [some (.d (enc (.mark m))), some (.d (dS r)), some (.d (.str "mark")), none, none, none, none, none, none]) PyData.str (fun x => .bool (sEq x m)) r (by intro x _; exact ⟨_, rfl, rfl, by simp⟩)
  simp [meansF, fnD_ap, startR, gL_means, dS, dB, rows, lcO_some (show (r.map PyData.str).length ≤ 100000 by simp; omega)] at q ⊢
  simp [q]
theorem meansF_yes : meansF (n + 1) [enc .yes, dS r] = some (dB (rows .yes r)) := by
  have q := lc_map (bd := b1 3) (t := tYesD) (f := fC (.bool true)) (ρ := [some (.d (enc .yes)), some (.d (dS r)), some (.d (.str "yes")), none, none, none, none, none, none]) PyData.str (fun x => .bool true) r (by intro x _; exact ⟨_, rfl, rfl, by simp⟩)
  simp [meansF, fnD_ap, startR, gL_means, dS, dB, rows, lcO_some (show (r.map PyData.str).length ≤ 100000 by simp; omega)] at q ⊢
  simp [q]
variable {s t : Sm} (i1 : meansF n [enc s, dS r] = some (dB (rows s r)))
include i1
theorem meansF_not : meansF (n + 1) [enc (.not s), dS r] = some (dB (rows (.not s) r)) := by
  have q := lc_map (bd := b1 6) (t := tYesD) (f := fNot (fV 6)) (ρ := [some (.d (enc (.not s))), some (.d (dS r)), some (.d (.str "not")), none, some (.d (.list [dB (rows s r)])), none, none, none, none]) PyData.bool (fun b => .bool (!b)) (rows s r) (by intro x _; exact ⟨_, rfl, rfl, by simp⟩)
  simp [meansF, fnD_ap, startR, gL_means, i1, Sm.tail]
  simp [dB, rows, lcO_some (show ((rows s r).map PyData.bool).length ≤ 100000 by simp [rows_len]; omega)] at q ⊢
  simp [q]
theorem meansF_nxt : meansF (n + 1) [enc (.nxt s), dS r] = some (dB (rows (.nxt s) r)) := by
  have e : cutL ((rows s r).map PyData.bool ++ [.bool false]) (some 1) none = ((rows s r ++ [false]).drop 1).map .bool := by
    rw [← cut_head _ (by simp), ← cut_map]; simp
  simp [meansF, fnD_ap, startR, gL_means, i1, Sm.tail]
  simp [dB, rows, addD_l (show ((rows s r).map PyData.bool).length + [PyData.bool false].length ≤ 100000 by simp [rows_len]; omega)]
  rw [e]; simp
theorem meansF_bef : meansF (n + 1) [enc (.bef s), dS r] = some (dB (rows (.bef s) r)) := by
  have e : cutL (.bool false :: (rows s r).map PyData.bool) none (some (r.length : Int)) = ((false :: rows s r).dropLast).map .bool := by
    have h := cut_map PyData.bool (false :: rows s r) none (some (r.length : Int))
    rw [List.map_cons] at h
    rw [h]
    unfold cutL
    rw [HT.sIx_none, HT.sIx_nat, List.dropLast_eq_take]
    simp [rows_len]
  simp [meansF, fnD_ap, startR, gL_means, i1, Sm.tail]
  simp [dS, dB, rows, addD_l (show [PyData.bool false].length + ((rows s r).map PyData.bool).length ≤ 100000 by simp [rows_len]; omega)]
  rw [e]; simp [List.map_dropLast]
theorem mwth_at (k : Int) (a : List Bool) (i : Nat) (x1 x2 x3 x5 x6 x7 : Option Sv) (s : Sm) : (f2 inP (fC (.bool true)) (fSl (f2 ixD (fV 4) (fC (.int 0))) (fO (fV 8)) (fO (f2 addD (f2 addD (fV 8) (f2 ixD (fV 0) (fC (.int 1)))) (fC (.int 1)))))) [some (.d (enc (.wth k s))), x1, x2, x3, some (.d (.list [dB a])), x5, x6, x7, some (.d (.int (i : Int)))] =
    some (.bool ((cutL a (some (i : Int)) (some ((i : Int) + k + 1))).any id)) := by
  simp only [fSl_ap, f2_ap, fV_ap, fC_ap, fO_ap]
  simp only [List.getElem?_cons_succ, List.getElem?_cons_zero, slot_d, ap2_some, ix_wth, ixD_l, atI_0, intO_some, addD_i, dB, slO_some, slD_l, cut_map, in_bools]
theorem meansF_wth (k : Int) : meansF (n + 1) [enc (.wth k s), dS r] = some (dB (rows (.wth k s) r)) := by
  have q := lc_map (bd := b1 8) (t := tYesD) (f := (f2 inP (fC (.bool true)) (fSl (f2 ixD (fV 4) (fC (.int 0))) (fO (fV 8)) (fO (f2 addD (f2 addD (fV 8) (f2 ixD (fV 0) (fC (.int 1)))) (fC (.int 1))))))) (ρ := [some (.d (enc (.wth k s))), some (.d (.list (r.map .str))), some (.d (.str "within")), none, some (.d (.list [dB (rows s r)])), none, none, none, none]) (fun (i : Nat) => PyData.int (i : Int)) (fun (i : Nat) => PyData.bool ((cutL (rows s r) (some (i : Int)) (some ((i : Int) + k + 1))).any id)) (List.range r.length)
    fun i _ => ⟨_, rfl, rfl, mwth_at r hr n i1 k (rows s r) i _ _ _ _ _ _ s⟩
  simp only [dS] at i1 ⊢
  simp [meansF, fnD_ap, startR, gL_means, i1, Sm.tail]
  rw [range_n r hr, lcO_some (range_len r.length hr), q]
  simp only [Option.map_some, retO_some, seqO_rt, retD_rt]
  rw [rows, wthR, rows_len]
  simp only [dB, List.map_map, Function.comp_def]
variable (i2 : meansF n [enc t, dS r] = some (dB (rows t r)))
include i2
theorem meansF_and : meansF (n + 1) [enc (.and s t), dS r] = some (dB (rows (.and s t) r)) := by
  have hz : (zipD ((rows s r).map .bool) ((rows t r).map .bool)).length ≤ 100000 := by rw [zipD_len (by simp [rows_len])]; simp [rows_len]; omega
  have q := zip_map' (· && ·) (fAnd (fV 6) (fV 7)) [some (.d (enc (.and s t))), some (.d (dS r)), some (.d (.str "and")), none, some (.d (.list [dB (rows s r), dB (rows t r)])), none, none, none, none] (rows s r) (rows t r) (by simp [rows_len]) (by intro a b ρ1 h; simp at h; subst h; simp)
  simp [meansF, fnD_ap, startR, gL_means, i1, i2, Sm.tail]
  simp [dB, rows, lcO_some hz] at q ⊢
  simp [q]
theorem meansF_or : meansF (n + 1) [enc (.or s t), dS r] = some (dB (rows (.or s t) r)) := by
  have hz : (zipD ((rows s r).map .bool) ((rows t r).map .bool)).length ≤ 100000 := by rw [zipD_len (by simp [rows_len])]; simp [rows_len]; omega
  have q := zip_map' (· || ·) (fOr (fV 6) (fV 7)) [some (.d (enc (.or s t))), some (.d (dS r)), some (.d (.str "or")), none, some (.d (.list [dB (rows s r), dB (rows t r)])), none, none, none, none] (rows s r) (rows t r) (by simp [rows_len]) (by intro a b ρ1 h; simp at h; subst h; simp)
  simp [meansF, fnD_ap, startR, gL_means, i1, i2, Sm.tail]
  simp [dB, rows, lcO_some hz] at q ⊢
  simp [q]
theorem meansF_unt : meansF (n + 1) [enc (.unt s t), dS r] = some (dB (rows (.unt s t) r)) := by
  have o := until_eq (rows s r).reverse (rows t r).reverse (by simp [rows_len]) (by simp [rows_len]; exact hr)
  simp [meansF, fnD_ap, startR, gL_means, i1, i2, Sm.tail]
  simp [dB, rows] at o ⊢
  simp [o]
theorem meansF_sin : meansF (n + 1) [enc (.sin s t), dS r] = some (dB (rows (.sin s t) r)) := by
  have o := until_eq (rows s r) (rows t r) (by simp [rows_len]) (by simp [rows_len]; exact hr)
  simp [meansF, fnD_ap, startR, gL_means, i1, i2, Sm.tail, o, rows]
end
theorem meansF_eq (r : List Str) (hr : r.length ≤ 1000) (s : Sm) : ∀ n : Nat, s.depth ≤ n → meansF n [enc s, dS r] = some (dB (rows s r)) := by
  have no : ∀ s : Sm, ¬ s.depth ≤ 0 := fun s => by cases s <;> simp
  induction s with
  | mark m => intro n hd; cases n with | zero => exact absurd hd (no _) | succ n => exact meansF_mark r hr n m
  | yes => intro n hd; cases n with | zero => exact absurd hd (no _) | succ n => exact meansF_yes r hr n
  | not s ihs => intro n hd; cases n with | zero => exact absurd hd (no _) | succ n => exact meansF_not r hr n (ihs n (by simpa using hd))
  | and s t ihs iht => intro n hd; cases n with | zero => exact absurd hd (no _) | succ n => exact meansF_and r hr n (ihs n (by simp at hd; omega)) (iht n (by simp at hd; omega))
  | or s t ihs iht => intro n hd; cases n with | zero => exact absurd hd (no _) | succ n => exact meansF_or r hr n (ihs n (by simp at hd; omega)) (iht n (by simp at hd; omega))
  | nxt s ihs => intro n hd; cases n with | zero => exact absurd hd (no _) | succ n => exact meansF_nxt r hr n (ihs n (by simpa using hd))
  | unt s t ihs iht => intro n hd; cases n with | zero => exact absurd hd (no _) | succ n => exact meansF_unt r hr n (ihs n (by simp at hd; omega)) (iht n (by simp at hd; omega))
  | wth k s ihs => intro n hd; cases n with | zero => exact absurd hd (no _) | succ n => exact meansF_wth r hr n (ihs n (by simpa using hd)) k
  | bef s ihs => intro n hd; cases n with | zero => exact absurd hd (no _) | succ n => exact meansF_bef r hr n (ihs n (by simpa using hd))
  | sin s t ihs iht => intro n hd; cases n with | zero => exact absurd hd (no _) | succ n => exact meansF_sin r hr n (ihs n (by simp at hd; omega)) (iht n (by simp at hd; omega))
end My

namespace My
open PySem L2 Dn TL
/-! ### cells, draws -/
def dI (ns : List Int) : PyData := .list (ns.map .int)
def cellAt (ns : List Int) (k : Nat) : Int := (ns[k]?).getD 0
def cellF : List PyData → Option PyData := fnD 2 gL_cell_at
theorem cell_eq (ns : List Int) (k : Nat) : cellF [dI ns, .int k] = some (.int (cellAt ns k)) := by
  have e : ixD (dI ns) (.int k) = (ns[k]?).map PyData.int := by
    show atI (ns.map PyData.int) (k : Int) = _
    cases h : ns[k]? with
    | none =>
      have hl : ns.length ≤ k := List.getElem?_eq_none_iff.mp h
      have : ixN (ns.map PyData.int).length (k : Int) = none := by
        unfold ixN
        rw [if_pos (by omega), if_neg (by simp; omega)]
      unfold atI; rw [this]; rfl
    | some v => exact atI_nat (by rw [List.getElem?_map, h]; rfl)
  unfold cellF
  by_cases h : k < ns.length
  · have h2 : (k : Int) < ((ns.map PyData.int).length : Int) := by simp; omega
    have h3 : ns[k]? = some ns[k] := by simp [h]
    simp [fnD_ap, startR, gL_cell_at, dI] at e ⊢
    simp [h, h3, e, cellAt]
  · have h3 : ns[k]? = none := List.getElem?_eq_none (by omega)
    simp [fnD_ap, startR, gL_cell_at, dI]
    simp [h, h3, cellAt]
/-- what a draw at spot k gives -/
def drawn (ns : List Int) (k : Nat) : Int := match ns[k]? with
  | some v => v
  | none => if 4 < ns.length ∧ k < 40 then ((ns[k % ns.length]?).getD 0 + 7919 * k) * 48271 % 1000003 else 0
def drawF (a0 xs : List PyData) : Option (PyData × List PyData) := match a0, xs with
  | [.list vs], [.int k] => match strsI vs with
    | some ns => if 0 ≤ k then some (.int (drawn ns k.toNat), [.int (k + 1)]) else none
    | none => none
  | _, _ => none
where strsI : List PyData → Option (List Int)
  | [] => some []
  | .int i :: r => (strsI r).map (i :: ·)
  | _ => none
theorem strsI_map (ns : List Int) : drawF.strsI (ns.map .int) = some ns := by
  induction ns with
  | nil => rfl
  | cons n r ih => simp [drawF.strsI, ih]
theorem strsI_inv : ∀ {vs : List PyData} {ns : List Int}, drawF.strsI vs = some ns → vs = ns.map .int
  | [], ns, h => by cases h; rfl
  | .int i :: r, ns, h => by
    simp only [drawF.strsI] at h
    obtain ⟨ms, e, rfl⟩ := Option.map_eq_some_iff.mp h
    rw [strsI_inv e]; rfl
  | .none :: r, ns, h => by simp [drawF.strsI] at h
  | .bool _ :: r, ns, h => by simp [drawF.strsI] at h
  | .str _ :: r, ns, h => by simp [drawF.strsI] at h
  | .list _ :: r, ns, h => by simp [drawF.strsI] at h
  | .tuple _ :: r, ns, h => by simp [drawF.strsI] at h
  | .dict _ :: r, ns, h => by simp [drawF.strsI] at h
theorem drawF_eq (ns : List Int) (k : Nat) : drawF [dI ns] [.int k] = some (.int (drawn ns k), [.int ((k + 1 : Nat) : Int)]) := by
  unfold drawF dI
  simp only [strsI_map]
  rw [if_pos (by omega)]
  simp
theorem ixI {ns : List Int} {k : Nat} (h : k < ns.length) : ixD (dI ns) (.int k) = some (.int ((ns[k]?).getD 0)) := by
  have h3 : ns[k]? = some ns[k] := by simp [h]
  rw [h3]
  exact atI_nat (by rw [List.getElem?_map, h3]; rfl)
theorem draw_run (a : Addr) (ns : List Int) (k : Nat) : retC a (gL_draw (startC 3 a [dI ns] [.int k])) = some (.int (drawn ns k), [.int ((k + 1 : Nat) : Int)]) := by
  have hl : lenD (dI ns) = some (.int (ns.length : Int)) := by simp [dI]
  have s0 : ∀ (ρ : Rho) (o : Option Addr) (x y : PyData), setiO 1 ρ (some (some (.own o [x]))) (some y) (some (.int 0)) = some (.nx (ρ.set 1 (some (.own o [y])))) := fun ρ o x y => setiO_0 ..
  by_cases h : k < ns.length
  · have h3 : ns[k]? = some ns[k] := by simp [h]
    have i1 := ixI h
    rw [h3] at i1
    simp [startC, gL_draw, hl, h, drawn, h3, i1, show (k : Int) + 1 - 1 = k by omega, retC]
  · have h3 : ns[k]? = none := List.getElem?_eq_none (by omega)
    by_cases h4 : 4 < ns.length
    · by_cases h5 : k < 40
      · have i1 := ixI (ns := ns) (k := k % ns.length) (Nat.mod_lt _ (by omega))
        have m1 : modD (.int (k : Int)) (.int (ns.length : Int)) = some (.int ((k % ns.length : Nat) : Int)) := by
          rw [modD_i (by omega)]; simp
        have m2 : mulD (.int 7919) (.int (k : Int)) = some (.int (7919 * k)) := mulD_i (.inl (by decide))
        have m3 : ∀ z : Int, mulD (.int z) (.int 48271) = some (.int (z * 48271)) := fun z => mulD_i (.inr (by decide))
        have m4 : ∀ z : Int, modD (.int z) (.int 1000003) = some (.int (z % 1000003)) := fun z => modD_i (by decide)
        simp only [Int.natCast_emod] at i1 m1
        simp [startC, gL_draw, hl, h, h4, h5, drawn, h3, i1, m1, m2, m3, m4, show (k : Int) + 1 - 1 = k by omega, show (4 : Int) < ns.length by omega, show (k : Int) < 40 by omega, retC]
      · simp [startC, gL_draw, hl, h, h4, h5, drawn, h3, show (k : Int) + 1 - 1 = k by omega, show (4 : Int) < ns.length by omega, show ¬ (k : Int) < 40 by omega, retC]
    · simp [startC, gL_draw, hl, h, h4, drawn, h3, show (k : Int) + 1 - 1 = k by omega, show ¬ (4 : Int) < ns.length by omega, retC]
theorem drawF_run (a : Addr) (ds xs : List PyData) (r : PyData × List PyData) (hl : ds.length + 1 = 2) (h : drawF ds xs = some r) : retC a (gL_draw (startC 3 a ds xs)) = some r := by
  unfold drawF at h
  split at h
  · rename_i vs k
    split at h
    · rename_i ns e
      split at h
      · rename_i hk
        cases h
        have q := draw_run a ns k.toNat
        rw [show ((k.toNat : Nat) : Int) = k by omega, show ((k.toNat + 1 : Nat) : Int) = k + 1 by omega] at q
        rw [strsI_inv e]
        exact q
      · cases h
    · cases h
  · cases h
/-! ### all that stands in a statement; the law's wishes, by what the law reckons -/
theorem Sm.depth_pos (s : Sm) : 1 ≤ s.depth := by cases s <;> simp
def allS : Sm → List Sm
  | .mark m => [.mark m]
  | .yes => [.yes]
  | .not s => .not s :: allS s
  | .and s t => .and s t :: (allS s ++ allS t)
  | .or s t => .or s t :: (allS s ++ allS t)
  | .nxt s => .nxt s :: allS s
  | .unt s t => .unt s t :: (allS s ++ allS t)
  | .wth k s => .wth k s :: allS s
  | .bef s => .bef s :: allS s
  | .sin s t => .sin s t :: (allS s ++ allS t)
theorem allS_len : ∀ s : Sm, (allS s).length + 1 ≤ 2 ^ s.depth
  | .mark _ | .yes => by simp [allS]
  | .not s | .nxt s | .wth _ s | .bef s => by
    have := allS_len s
    simp [allS, Nat.pow_succ]; omega
  | .and s t | .or s t | .unt s t | .sin s t => by
    have h1 := allS_len s
    have h2 := allS_len t
    have h3 : 2 ^ s.depth ≤ 2 ^ max s.depth t.depth := Nat.pow_le_pow_right (by decide) (Nat.le_max_left _ _)
    have h4 : 2 ^ t.depth ≤ 2 ^ max s.depth t.depth := Nat.pow_le_pow_right (by decide) (Nat.le_max_right _ _)
    simp [allS, Nat.pow_succ]; omega
def allF : Nat → List PyData → Option PyData
  | 0 => fun _ => none
  | n + 1 => fnD 3 (gL_all (allF n))
theorem allF_eq (s : Sm) : ∀ n : Nat, s.depth ≤ n → s.depth ≤ 14 → allF n [enc s] = some (.list ((allS s).map enc)) := by
  have no : ∀ s : Sm, ¬ s.depth ≤ 0 := fun s => by cases s <;> simp
  have big : ∀ s : Sm, s.depth ≤ 14 → ((allS s).map enc).length ≤ 20000 := fun s h => by
    have h1 := allS_len s
    have h2 : 2 ^ s.depth ≤ 2 ^ 14 := Nat.pow_le_pow_right (by decide) h
    have h3 : (2 : Nat) ^ 14 = 16384 := rfl
    simp; omega
  have ap : ∀ (x : PyData) (a b : List PyData), a.length ≤ 20000 → b.length ≤ 20000 → addD (.list (x :: a)) (.list b) = some (.list (x :: (a ++ b))) := fun x a b h1 h2 => addD_l (by simp; omega)
  have ap1 : ∀ (x : PyData) (b : List PyData), b.length ≤ 20000 → addD (.list [x]) (.list b) = some (.list (x :: b)) := fun x b h2 => addD_l (by simp; omega)
  induction s with
  | mark m => intro n hd h; cases n with | zero => exact absurd hd (no _) | succ n => simp [allF, fnD_ap, startR, gL_all, Sm.tail, allS]
  | yes => intro n hd h; cases n with | zero => exact absurd hd (no _) | succ n => simp [allF, fnD_ap, startR, gL_all, Sm.tail, allS]
  | not s ihs | nxt s ihs | wth k s ihs | bef s ihs =>
    intro n hd h
    cases n with
    | zero => exact absurd hd (no _)
    | succ n =>
      have hs : s.depth ≤ 14 := by simp at h; omega
      have i1 := ihs n (by simpa using hd) hs
      have := ap1
      simp [allF, fnD_ap, startR, gL_all, Sm.tail, allS, i1, ap1 _ _ (big s hs)]
  | and s t ihs iht | or s t ihs iht | unt s t ihs iht | sin s t ihs iht =>
    intro n hd h
    cases n with
    | zero => exact absurd hd (no _)
    | succ n =>
      have hs : s.depth ≤ 14 := by simp at h; omega
      have ht : t.depth ≤ 14 := by simp at h; omega
      have i1 := ihs n (by simp at hd; omega) hs
      have i2 := iht n (by simp at hd; omega) ht
      simp [allF, fnD_ap, startR, gL_all, Sm.tail, allS, i1, i2, ap1 _ _ (big s hs), ap _ _ _ (big s hs) (big t ht)]
end My

namespace My
open PySem L2 Dn TL
/-! ### fine statements: what may be compared -/
def Sm.Fine : Sm → Prop
  | .mark m => Ltr m
  | .yes => True
  | .not s | .nxt s | .bef s => s.Fine
  | .wth k s => 0 ≤ k ∧ k ≤ 4 ∧ s.Fine
  | .and s t | .or s t | .unt s t | .sin s t => s.Fine ∧ t.Fine
theorem ltr_ok {m : Str} (h : Ltr m) : PyData.strOk m = true := by
  unfold PyData.strOk
  rw [Array.all_eq_true_iff_forall_mem]
  intro c hc
  have := h.ab c (by simpa [tl] using hc)
  exact decide_eq_true (by omega)
theorem word_ok : ∀ s : Sm, PyData.strOk s.word = true := by intro s; cases s <;> simp only [Sm.word] <;> decide +kernel
theorem lay_enc : ∀ s : Sm, s.Fine → PyData.canLay0 (enc s) = true
  | .mark m, h => by
    have h1 : PyData.strOk m = true := ltr_ok h
    have h2 := word_ok (.mark m)
    simp only [Sm.word] at h2
    simp [enc, PyData.canLay0, PyData.canLayAll0, h1, h2]
  | .yes, _ => by
    have h2 := word_ok .yes
    simp only [Sm.word] at h2
    simp [enc, PyData.canLay0, PyData.canLayAll0, h2]
  | .not s, h => by
    have h2 := word_ok (.not s)
    simp only [Sm.word] at h2
    simp [enc, PyData.canLay0, PyData.canLayAll0, h2, lay_enc s h]
  | .nxt s, h => by
    have h2 := word_ok (.nxt s)
    simp only [Sm.word] at h2
    simp [enc, PyData.canLay0, PyData.canLayAll0, h2, lay_enc s h]
  | .bef s, h => by
    have h2 := word_ok (.bef s)
    simp only [Sm.word] at h2
    simp [enc, PyData.canLay0, PyData.canLayAll0, h2, lay_enc s h]
  | .wth k s, h => by
    have h2 := word_ok (.wth k s)
    simp only [Sm.word] at h2
    simp [enc, PyData.canLay0, PyData.canLayAll0, h2, lay_enc s h.2.2]
  | .and s t, h => by
    have h2 := word_ok (.and s t)
    simp only [Sm.word] at h2
    simp [enc, PyData.canLay0, PyData.canLayAll0, h2, lay_enc s h.1, lay_enc t h.2]
  | .or s t, h => by
    have h2 := word_ok (.or s t)
    simp only [Sm.word] at h2
    simp [enc, PyData.canLay0, PyData.canLayAll0, h2, lay_enc s h.1, lay_enc t h.2]
  | .unt s t, h => by
    have h2 := word_ok (.unt s t)
    simp only [Sm.word] at h2
    simp [enc, PyData.canLay0, PyData.canLayAll0, h2, lay_enc s h.1, lay_enc t h.2]
  | .sin s t, h => by
    have h2 := word_ok (.sin s t)
    simp only [Sm.word] at h2
    simp [enc, PyData.canLay0, PyData.canLayAll0, h2, lay_enc s h.1, lay_enc t h.2]
theorem depth_enc : ∀ s : Sm, PyData.depth (enc s) = s.depth
  | .mark m => by simp [enc, PyData.depth, PyData.depthAll]
  | .yes => by simp [enc, PyData.depth, PyData.depthAll]
  | .not s => by simp [enc, PyData.depth, PyData.depthAll, depth_enc s]
  | .nxt s => by simp [enc, PyData.depth, PyData.depthAll, depth_enc s]
  | .bef s => by simp [enc, PyData.depth, PyData.depthAll, depth_enc s]
  | .wth k s => by simp [enc, PyData.depth, PyData.depthAll, depth_enc s]
  | .and s t => by simp [enc, PyData.depth, PyData.depthAll, depth_enc s, depth_enc t]
  | .or s t => by simp [enc, PyData.depth, PyData.depthAll, depth_enc s, depth_enc t]
  | .unt s t => by simp [enc, PyData.depth, PyData.depthAll, depth_enc s, depth_enc t]
  | .sin s t => by simp [enc, PyData.depth, PyData.depthAll, depth_enc s, depth_enc t]
theorem eqv_str (a b : Str) : PyData.eqv (.str a) (.str b) = sEq a b := by simp only [PyData.eqv]; rfl
theorem eqv_int (a b : Int) : PyData.eqv (.int a) (.int b) = decide (a = b) := by simp only [PyData.eqv]; rfl
theorem eqv_tup (a b : List PyData) : PyData.eqv (.tuple a) (.tuple b) = PyData.eqvAll a b := by simp only [PyData.eqv]
theorem eqvAll_c (a b : PyData) (r q : List PyData) : PyData.eqvAll (a :: r) (b :: q) = (PyData.eqv a b && PyData.eqvAll r q) := by simp only [PyData.eqvAll]
theorem eqvAll_0 : PyData.eqvAll [] [] = true := by simp only [PyData.eqvAll]
theorem eqv_enc : ∀ s t : Sm, PyData.eqv (enc s) (enc t) = decide (s = t) := by
  intro s
  induction s with
  | mark m => intro t; cases t <;> simp [enc, eqv_str, eqv_tup, eqvAll_c, eqvAll_0, sEq]
  | yes => intro t; cases t <;> simp [enc, eqv_str, eqv_tup, eqvAll_c, eqvAll_0]
  | not s ihs | nxt s ihs | bef s ihs => intro t; cases t <;> simp [enc, eqv_str, eqv_tup, eqvAll_c, eqvAll_0, ihs]
  | wth k s ihs => intro t; cases t <;> simp [enc, eqv_str, eqv_int, eqv_tup, eqvAll_c, eqvAll_0, ihs]
  | and s t ihs iht | or s t ihs iht | unt s t ihs iht | sin s t ihs iht => intro u; cases u <;> simp [enc, eqv_str, eqv_tup, eqvAll_c, eqvAll_0, ihs, iht]
theorem shaped_enc {s : Sm} (h : s.Fine) (hd : s.depth ≤ 60) : SeqAt.shaped (enc s) = true := by
  simp [SeqAt.shaped, lay_enc s h, depth_enc s]; omega
theorem shaped_encs {xs : List Sm} (h : ∀ s ∈ xs, s.Fine ∧ s.depth ≤ 60) : SeqAt.shaped (.list (xs.map enc)) = true := by
  have h1 : PyData.canLayAll0 (xs.map enc) = true ∧ PyData.depthAll (xs.map enc) ≤ 60 := by
    induction xs with
    | nil => simp [PyData.canLayAll0, PyData.depthAll]
    | cons x r ih =>
      obtain ⟨i1, i2⟩ := ih fun s hs => h s (by simp [hs])
      obtain ⟨j1, j2⟩ := h x (by simp)
      simp only [List.map_cons, PyData.canLayAll0, PyData.depthAll, lay_enc x j1, i1, depth_enc]
      exact ⟨rfl, by omega⟩
  simp [SeqAt.shaped, PyData.canLay0, PyData.depth, h1.1]
  omega
theorem any_enc (x : Sm) (xs : List Sm) : (xs.map enc).any (fun z => PyData.eqv z (enc x)) = decide (x ∈ xs) := by
  induction xs with
  | nil => simp
  | cons y r ih =>
    rw [List.map_cons, List.any_cons, ih, eqv_enc]
    by_cases h : y = x
    · simp [h]
    · simp [h, Ne.symm h]
theorem inD_encs {x : Sm} {xs : List Sm} (hx : x.Fine ∧ x.depth ≤ 60) (h : ∀ s ∈ xs, s.Fine ∧ s.depth ≤ 60) : inD (enc x) (.list (xs.map enc)) = some (decide (x ∈ xs)) := by
  have e : inD (enc x) (.list (xs.map enc)) = if (SeqAt.shaped (enc x) && SeqAt.shaped (.list (xs.map enc))) = true then some ((xs.map enc).any fun z => PyData.eqv z (enc x)) else none := by
    obtain ⟨ys, e⟩ : ∃ ys, enc x = .tuple ys := ⟨_, enc_eq x⟩
    rw [e]; rfl
  rw [e, shaped_enc hx.1 hx.2, shaped_encs h, any_enc]
  rfl
theorem ni_encs {x : Sm} {xs : List Sm} (hx : x.Fine ∧ x.depth ≤ 60) (h : ∀ s ∈ xs, s.Fine ∧ s.depth ≤ 60) : niP (enc x) (.list (xs.map enc)) = some (.bool (decide (x ∉ xs))) := by
  unfold niP
  rw [inD_encs hx h]
  simp
theorem in_encs {x : Sm} {xs : List Sm} (hx : x.Fine ∧ x.depth ≤ 60) (h : ∀ s ∈ xs, s.Fine ∧ s.depth ≤ 60) : inP (enc x) (.list (xs.map enc)) = some (.bool (decide (x ∈ xs))) := by
  unfold inP
  rw [inD_encs hx h]
  rfl
theorem fine_all : ∀ (s : Sm), s.Fine → ∀ x ∈ allS s, x.Fine ∧ x.depth ≤ s.depth
  | .mark m, h, x, hx => by simp [allS] at hx; subst hx; exact ⟨h, by simp⟩
  | .yes, h, x, hx => by simp [allS] at hx; subst hx; exact ⟨h, by simp⟩
  | .not s, h, x, hx => by
    rcases List.mem_cons.mp hx with rfl | hx
    · exact ⟨h, by simp⟩
    · have := fine_all s h x hx; exact ⟨this.1, by simp; omega⟩
  | .nxt s, h, x, hx => by
    rcases List.mem_cons.mp hx with rfl | hx
    · exact ⟨h, by simp⟩
    · have := fine_all s h x hx; exact ⟨this.1, by simp; omega⟩
  | .bef s, h, x, hx => by
    rcases List.mem_cons.mp hx with rfl | hx
    · exact ⟨h, by simp⟩
    · have := fine_all s h x hx; exact ⟨this.1, by simp; omega⟩
  | .wth k s, h, x, hx => by
    rcases List.mem_cons.mp hx with rfl | hx
    · exact ⟨h, by simp⟩
    · have := fine_all s h.2.2 x hx; exact ⟨this.1, by simp; omega⟩
  | .and s t, h, x, hx | .or s t, h, x, hx | .unt s t, h, x, hx | .sin s t, h, x, hx => by
    rcases List.mem_cons.mp hx with rfl | hx
    · exact ⟨h, by simp⟩
    · rcases List.mem_append.mp hx with hx | hx
      · have := fine_all s h.1 x hx; exact ⟨this.1, by simp; omega⟩
      · have := fine_all t h.2 x hx; exact ⟨this.1, by simp; omega⟩
/-! ### the law's wishes -/
def moreS : Sm → List Sm
  | .nxt s => [s]
  | .unt s t => [.unt s t]
  | .wth k s => (List.range k.toNat).map fun (j : Nat) => .wth (j : Int) s
  | _ => []
def wishGo (ones found : List Sm) : List Sm := ones.foldl (fun f one => f ++ (moreS one).filter fun x => decide (x ∉ f)) found
def wishL (s : Sm) : List Sm := wishGo (allS s) [s]
theorem more_fine {s : Sm} (h : s.Fine) : (moreS s).length ≤ 4 ∧ ∀ x ∈ moreS s, x.Fine ∧ x.depth ≤ s.depth := by
  cases s with
  | nxt s => exact ⟨by simp [moreS], fun x hx => by simp [moreS] at hx; subst hx; exact ⟨h, by simp⟩⟩
  | unt s t => exact ⟨by simp [moreS], fun x hx => by simp [moreS] at hx; subst hx; exact ⟨h, by simp⟩⟩
  | wth k s =>
    obtain ⟨h1, h2, h3⟩ := h
    refine ⟨by simp [moreS]; omega, fun x hx => ?_⟩
    simp only [moreS, List.mem_map, List.mem_range] at hx
    obtain ⟨j, hj, rfl⟩ := hx
    exact ⟨⟨by omega, by omega, h3⟩, by simp⟩
  | _ => exact ⟨by simp [moreS], fun x hx => by simp [moreS] at hx⟩
end My

namespace My
open PySem L2 Dn TL
def wishesF : List PyData → Option PyData := fnD 6 (gL_wishes (allF 14))
/-- a comprehension that keeps some of a list -/
theorem lc_filter {bd : PyData → Rho → Option Rho} {t : Rho → Option Bool} {f : Rho → Option PyData} {ρ : Rho} {α : Type} (e : α → PyData) (p : α → Bool) (h : α → PyData) : ∀ xs : List α, (∀ x ∈ xs, ∃ ρ1, bd (e x) ρ = some ρ1 ∧ t ρ1 = some (p x) ∧ f ρ1 = some (h x)) → lcGo bd t f ρ (xs.map e) = some ((xs.filter p).map h)
  | [], _ => rfl
  | x :: xs, q => by
    obtain ⟨ρ1, e1, e2, e3⟩ := q x (by simp)
    rw [List.map_cons, lcGo_c, e1, lcB_some, e2, e3, lc_filter e p h xs fun y hy => q y (by simp [hy])]
    cases hp : p x <;> simp [hp]
abbrev wBody : Rho → Option Out := gSeq (gSet 3 (fLst fNil)) (gSeq (gIf (fB (f2 eqP (f2 ixD (fV 2) (fC (.int 0))) (fC (.str "next")))) (gSet 3 (fLst (fCons (f2 ixD (fV 2) (fC (.int 1))) fNil))) (gIf (fB (f2 eqP (f2 ixD (fV 2) (fC (.int 0))) (fC (.str "until")))) (gSet 3 (fLst (fCons (fV 2) fNil))) (gIf (fB (f2 eqP (f2 ixD (fV 2) (fC (.int 0))) (fC (.str "within")))) (gSet 3 (fLc (fR1 (f2 ixD (fV 2) (fC (.int 1)))) (b1 4) tYesD (fTup (fCons (fC (.str "within")) (fCons (fV 4) (fCons (f2 ixD (fV 2) (fC (.int 2))) fNil)))) [4])) gNx))) (gSet 1 (f2 addD (fV 1) (fLc (fSeq (fV 3)) (b1 5) (fB (f2 niP (fV 5) (fV 1))) (fV 5) [5]))))
theorem wLast (x0 x1 x2 : PyData) (found more : List Sm) (hm : more.length ≤ 4) (hf : ∀ s ∈ found, s.Fine ∧ s.depth ≤ 60) (hx : ∀ s ∈ more, s.Fine ∧ s.depth ≤ 60) (hl : found.length ≤ 90000) (x4 x5 : Option Sv) :
    ∃ x5', gSet 1 (f2 addD (fV 1) (fLc (fSeq (fV 3)) (b1 5) (fB (f2 niP (fV 5) (fV 1))) (fV 5) [5])) [some (.d x0), some (.d (.list (found.map enc))), some (.d x2), some (.d (.list (more.map enc))), x4, x5] =
      some (.nx [some (.d x0), some (.d (.list ((found ++ more.filter fun x => decide (x ∉ found)).map enc))), some (.d x2), some (.d (.list (more.map enc))), x4, x5']) := by
  have q := lc_filter (bd := b1 5) (t := fB (f2 niP (fV 5) (fV 1))) (f := fV 5) (ρ := [some (.d x0), some (.d (.list (found.map enc))), some (.d x2), some (.d (.list (more.map enc))), x4, none]) enc (fun x => decide (x ∉ found)) enc more
    (by intro x h; exact ⟨_, rfl, by simp [ni_encs (hx x h) hf], by simp⟩)
  refine ⟨x5, ?_⟩
  have hs : ((found.map enc).length + ((more.filter fun x => decide (x ∉ found)).map enc).length) ≤ 100000 := by
    have := List.length_filter_le (fun x => decide (x ∉ found)) more
    rw [List.length_map, List.length_map]; omega
  simp only [gSet_ap, f2_ap, fV_ap, fLc_ap, fSeq_ap, List.getElem?_cons_succ, List.getElem?_cons_zero, slot_d, seqO1_some, seqD_l, wipeR_c, wipeR_0, List.set_cons_succ, List.set_cons_zero]
  rw [lcO_some (by simp; omega), q]
  simp only [Option.map_some, ap2_some]
  rw [addD_l hs]
  simp only [setO_some, List.set_cons_succ, List.set_cons_zero, List.map_append]
theorem wth_more (k : Int) (s : Sm) (h : 0 ≤ k ∧ k ≤ 4) (x0 x1 x3 x5 : Option Sv) : fLc (fR1 (f2 ixD (fV 2) (fC (.int 1)))) (b1 4) tYesD (fTup (fCons (fC (.str "within")) (fCons (fV 4) (fCons (f2 ixD (fV 2) (fC (.int 2))) fNil)))) [4] [x0, x1, some (.d (enc (.wth k s))), x3, none, x5] = some (.list ((moreS (.wth k s)).map enc)) := by
  have ix2 : ixD (enc (.wth k s)) (.int 2) = some (enc s) := by simp [enc]
  have q := lc_map (bd := b1 4) (t := tYesD) (f := (fTup (fCons (fC (.str "within")) (fCons (fV 4) (fCons (f2 ixD (fV 2) (fC (.int 2))) fNil))))) (ρ := [x0, x1, some (.d (enc (.wth k s))), x3, none, x5]) (fun (i : Nat) => PyData.int (i : Int)) (fun (j : Nat) => enc (.wth (j : Int) s)) (List.range k.toNat)
    (by intro j hj; exact ⟨_, rfl, rfl, by simp [ix2, enc]⟩)
  have e : range1D (.int k) = some ((List.range k.toNat).map fun (i : Nat) => PyData.int (i : Int)) := by
    have := range1D_n (m := k.toNat) (by omega)
    rw [show ((k.toNat : Nat) : Int) = k by omega] at this
    rw [this]; simp [Dn.intsFrom]
  simp only [fLc_ap, fR1_ap, f2_ap, fV_ap, fC_ap, List.getElem?_cons_succ, List.getElem?_cons_zero, slot_d, ap2_some, ix_wth, seqO1_some, wipeR_c, wipeR_0, List.set_cons_succ, List.set_cons_zero]
  rw [e, lcO_some (by simp; omega), q]
  simp [moreS, Function.comp_def]
theorem wTurn (x0 : PyData) (found : List Sm) (one : Sm) (h1 : one.Fine ∧ one.depth ≤ 60) (hf : ∀ s ∈ found, s.Fine ∧ s.depth ≤ 60) (hl : found.length ≤ 90000) (x3 x4 x5 : Option Sv) (h4 : x4 = none) :
    ∃ x3' x5', wBody [some (.d x0), some (.d (.list (found.map enc))), some (.d (enc one)), x3, x4, x5] =
      some (.nx [some (.d x0), some (.d (.list ((found ++ (moreS one).filter fun x => decide (x ∉ found)).map enc))), some (.d (enc one)), x3', none, x5']) := by
  subst h4
  obtain ⟨m1, m2⟩ := more_fine h1.1
  obtain ⟨x5', q⟩ := wLast x0 (.list (found.map enc)) (enc one) found (moreS one) m1 hf (fun s hs => ⟨(m2 s hs).1, Nat.le_trans (m2 s hs).2 h1.2⟩) hl none x5
  refine ⟨some (.d (.list ((moreS one).map enc))), x5', ?_⟩
  have key : (gSeq (gSet 3 (fLst fNil)) (gIf (fB (f2 eqP (f2 ixD (fV 2) (fC (.int 0))) (fC (.str "next")))) (gSet 3 (fLst (fCons (f2 ixD (fV 2) (fC (.int 1))) fNil))) (gIf (fB (f2 eqP (f2 ixD (fV 2) (fC (.int 0))) (fC (.str "until")))) (gSet 3 (fLst (fCons (fV 2) fNil))) (gIf (fB (f2 eqP (f2 ixD (fV 2) (fC (.int 0))) (fC (.str "within")))) (gSet 3 (fLc (fR1 (f2 ixD (fV 2) (fC (.int 1)))) (b1 4) tYesD (fTup (fCons (fC (.str "within")) (fCons (fV 4) (fCons (f2 ixD (fV 2) (fC (.int 2))) fNil)))) [4])) gNx)))) [some (.d x0), some (.d (.list (found.map enc))), some (.d (enc one)), x3, none, x5] = some (.nx [some (.d x0), some (.d (.list (found.map enc))), some (.d (enc one)), some (.d (.list ((moreS one).map enc))), none, x5]) := by
    cases one with
    | nxt s =>
      have ix1 : ixD (enc (.nxt s)) (.int 1) = some (enc s) := by simp [enc]
      simp [moreS, ix1]
    | unt s t => simp [moreS]
    | wth k s => 
      have w := wth_more k s ⟨h1.1.1, h1.1.2.1⟩ (some (.d x0)) (some (.d (.list (found.map enc)))) (some (.d (.list []))) x5
      simp [-fLc_ap, w]
    | _ => simp [moreS]
  simp only [gSeq_ap] at key
  simp only [wBody, gSeq_ap]
  cases hz : gSet 3 (fLst fNil) [some (.d x0), some (.d (.list (found.map enc))), some (.d (enc one)), x3, none, x5] with
  | none => rw [hz] at key; cases key
  | some o =>
    rw [hz] at key
    cases o with
    | nx ρ =>
      simp only [seqO_nx] at key ⊢
      rw [gSeq_ap, key]
      simp only [seqO_nx]
      exact q
    | rt d ρ => cases key
    | bk ρ => cases key
    | ct ρ => cases key
theorem wGo (x0 : PyData) : ∀ (ones found : List Sm) (x2 x3 x5 : Option Sv), (∀ s ∈ ones, s.Fine ∧ s.depth ≤ 60) → (∀ s ∈ found, s.Fine ∧ s.depth ≤ 60) → found.length + 4 * ones.length ≤ 90000 →
    ∃ x2' x3' x5', forGo (b1 2) wBody (ones.map enc) [some (.d x0), some (.d (.list (found.map enc))), x2, x3, none, x5] = some (.nx [some (.d x0), some (.d (.list ((wishGo ones found).map enc))), x2', x3', none, x5'])
  | [], found, x2, x3, x5, _, _, _ => ⟨x2, x3, x5, rfl⟩
  | one :: ones, found, x2, x3, x5, h1, hf, hl => by
    have ho := h1 one (by simp)
    obtain ⟨m1, m2⟩ := more_fine ho.1
    obtain ⟨x3', x5', q⟩ := wTurn x0 found one ho hf (by simp at hl; omega) x3 none x5 rfl
    have hlen := List.length_filter_le (fun x => decide (x ∉ found)) (moreS one)
    obtain ⟨y2, y3, y5, q2⟩ := wGo x0 ones (found ++ (moreS one).filter fun x => decide (x ∉ found)) (some (.d (enc one))) x3' x5' (fun s hs => h1 s (by simp [hs])) (by
      intro s hs
      rcases List.mem_append.mp hs with hs | hs
      · exact hf s hs
      · have := m2 s (List.mem_filter.mp hs).1
        exact ⟨this.1, Nat.le_trans this.2 ho.2⟩) (by rw [List.length_append]; simp only [List.length_cons] at hl; omega)
    refine ⟨y2, y3, y5, ?_⟩
    rw [List.map_cons, forGo_c, b1_ap, forB_some]
    simp only [List.set_cons_succ, List.set_cons_zero]
    rw [q, forN_nx, q2]
    rfl
theorem wishes_eq (s : Sm) (h : s.Fine) (hd : s.depth ≤ 10) : wishesF [enc s] = some (.list ((wishL s).map enc)) := by
  have hl := allS_len s
  have h2 : 2 ^ s.depth ≤ 2 ^ 10 := Nat.pow_le_pow_right (by decide) hd
  have h3 : (2 : Nat) ^ 10 = 1024 := rfl
  obtain ⟨x2, x3, x5, q⟩ := wGo (enc s) (allS s) [s] none none none (fun x hx => ⟨(fine_all s h x hx).1, by have := (fine_all s h x hx).2; omega⟩) (by intro x hx; simp at hx; subst hx; exact ⟨h, by omega⟩) (by simp; omega)
  have a := allF_eq s 14 (by omega) (by omega)
  unfold wishesF
  rw [fnD_ap]
  have e : startR 6 [enc s] = [some (.d (enc s)), none, none, none, none, none] := rfl
  rw [e, gL_wishes]
  simp only [gSeq_ap, gSet_ap, fLst_ap, fCons_ap, fV_ap, fNil_ap, List.getElem?_cons_zero, slot_d, consO_some, lstO_1, setO_some, List.set_cons_succ, List.set_cons_zero, seqO_nx, gFor_ap, fSeq_ap, fCa_ap, caO_1, a, seqO1_some, seqD_l, forO_some]
  simp only [List.map_cons, List.map_nil] at q
  rw [q]
  simp only [seqO_nx, gRet_ap, fV_ap, List.getElem?_cons_succ, List.getElem?_cons_zero, slot_d, retO_some, retD_rt, wishL]
end My

namespace My
open PySem L2 Dn TL
/-! ### the law's fit -/
def fitS (m : Nat) : Sm → Sm
  | .mark x => .mark x
  | .yes => .yes
  | .not s => if (wishL (.not s)).length ≤ m then .not s else fitS m s
  | .nxt s => if (wishL (.nxt s)).length ≤ m then .nxt s else fitS m s
  | .bef s => if (wishL (.bef s)).length ≤ m then .bef s else fitS m s
  | .wth k s => if (wishL (.wth k s)).length ≤ m then .wth k s else fitS m s
  | .and s t => if (wishL (.and s t)).length ≤ m then .and s t else fitS m t
  | .or s t => if (wishL (.or s t)).length ≤ m then .or s t else fitS m t
  | .unt s t => if (wishL (.unt s t)).length ≤ m then .unt s t else fitS m t
  | .sin s t => if (wishL (.sin s t)).length ≤ m then .sin s t else fitS m t
theorem fitS_fine (m : Nat) (hm : 1 ≤ m) : ∀ s : Sm, s.Fine → (fitS m s).Fine ∧ (fitS m s).depth ≤ s.depth ∧ (wishL (fitS m s)).length ≤ m
  | .mark x, h => ⟨h, by simp [fitS], by simpa [fitS, wishL, allS, wishGo, moreS] using hm⟩
  | .yes, h => ⟨h, by simp [fitS], by simpa [fitS, wishL, allS, wishGo, moreS] using hm⟩
  | .not s, h => by
    unfold fitS; split
    · rename_i z; exact ⟨h, Nat.le_refl _, z⟩
    · have q := fitS_fine m hm s h; exact ⟨q.1, by simp; omega, q.2.2⟩
  | .nxt s, h => by
    unfold fitS; split
    · rename_i z; exact ⟨h, Nat.le_refl _, z⟩
    · have q := fitS_fine m hm s h; exact ⟨q.1, by simp; omega, q.2.2⟩
  | .bef s, h => by
    unfold fitS; split
    · rename_i z; exact ⟨h, Nat.le_refl _, z⟩
    · have q := fitS_fine m hm s h; exact ⟨q.1, by simp; omega, q.2.2⟩
  | .wth k s, h => by
    unfold fitS; split
    · rename_i z; exact ⟨h, Nat.le_refl _, z⟩
    · have q := fitS_fine m hm s h.2.2; exact ⟨q.1, by simp; omega, q.2.2⟩
  | .and s t, h => by
    unfold fitS; split
    · rename_i z; exact ⟨h, Nat.le_refl _, z⟩
    · have q := fitS_fine m hm t h.2; exact ⟨q.1, by simp; omega, q.2.2⟩
  | .or s t, h => by
    unfold fitS; split
    · rename_i z; exact ⟨h, Nat.le_refl _, z⟩
    · have q := fitS_fine m hm t h.2; exact ⟨q.1, by simp; omega, q.2.2⟩
  | .unt s t, h => by
    unfold fitS; split
    · rename_i z; exact ⟨h, Nat.le_refl _, z⟩
    · have q := fitS_fine m hm t h.2; exact ⟨q.1, by simp; omega, q.2.2⟩
  | .sin s t, h => by
    unfold fitS; split
    · rename_i z; exact ⟨h, Nat.le_refl _, z⟩
    · have q := fitS_fine m hm t h.2; exact ⟨q.1, by simp; omega, q.2.2⟩
def fitF : List PyData → Option PyData := fnD 2 (gL_fit wishesF)
theorem last2 (a b : PyData) : ixD (.tuple [a, b]) (.int (-1)) = some b := by simp [atI, ixN]
theorem last3 (a b c : PyData) : ixD (.tuple [a, b, c]) (.int (-1)) = some c := by simp [atI, ixN]
abbrev fitC : Rho → Option Bool := (fB (f2 (rb fun i j => decide (j < i)) (fCl (one1 lenD) (fCons (fCa 1 wishesF (fCons (fV 0) fNil)) fNil)) (fV 1)))
abbrev fitB : Rho → Option Out := (gSet 0 (f2 ixD (fV 0) (f1 negD (fC (.int 1)))))
theorem fitC_eq (m : Nat) (s : Sm) (h : s.Fine) (hd : s.depth ≤ 10) : fitC [some (.d (enc s)), some (.d (.int m))] = some (decide (m < (wishL s).length)) := by
  simp [fitC, wishes_eq s h hd]
theorem fit_stop (m n : Nat) (s : Sm) (h : s.Fine) (hd : s.depth ≤ 10) (hw : (wishL s).length ≤ m) : whileGo fitC fitB (n + 1) [some (.d (enc s)), some (.d (.int m))] = some (.nx [some (.d (enc s)), some (.d (.int m))]) :=
  while_f (by rw [fitC_eq m s h hd, decide_eq_false (by omega)])
theorem fit_on (m n : Nat) (s t : Sm) (h : s.Fine) (hd : s.depth ≤ 10) (hw : ¬ (wishL s).length ≤ m) (e : ixD (enc s) (.int (-1)) = some (enc t)) : whileGo fitC fitB (n + 1) [some (.d (enc s)), some (.d (.int m))] = whileGo fitC fitB n [some (.d (enc t)), some (.d (.int m))] := by
  rw [while_t (by rw [fitC_eq m s h hd, decide_eq_true (by omega)])]
  simp [fitB, e]
theorem fit_go (m : Nat) (hm : 1 ≤ m) (s : Sm) : s.Fine → s.depth ≤ 10 → ∀ n : Nat, s.depth ≤ n → whileGo fitC fitB n [some (.d (enc s)), some (.d (.int m))] = some (.nx [some (.d (enc (fitS m s))), some (.d (.int m))]) := by
  have no : ∀ s : Sm, ¬ s.depth ≤ 0 := fun s => by cases s <;> simp
  induction s with
  | mark x => intro h hd n hn; cases n with | zero => exact absurd hn (no _) | succ n => exact fit_stop m n _ h hd (by simpa [wishL, allS, wishGo, moreS] using hm)
  | yes => intro h hd n hn; cases n with | zero => exact absurd hn (no _) | succ n => exact fit_stop m n _ h hd (by simpa [wishL, allS, wishGo, moreS] using hm)
  | not s ihs | nxt s ihs | bef s ihs =>
    intro h hd n hn
    cases n with
    | zero => exact absurd hn (no _)
    | succ n =>
      unfold fitS
      split
      · rename_i z; exact fit_stop m n _ h hd z
      · rename_i z; rw [fit_on m n _ s h hd z (by simp [enc, last2, -ixD_t])]; exact ihs h (by simp at hd; omega) n (by simp at hn; omega)
  | wth k s ihs =>
    intro h hd n hn
    cases n with
    | zero => exact absurd hn (no _)
    | succ n =>
      unfold fitS
      split
      · rename_i z; exact fit_stop m n _ h hd z
      · rename_i z; rw [fit_on m n _ s h hd z (by simp [enc, last3, -ixD_t])]; exact ihs h.2.2 (by simp at hd; omega) n (by simp at hn; omega)
  | and s t ihs iht | or s t ihs iht | unt s t ihs iht | sin s t ihs iht =>
    intro h hd n hn
    cases n with
    | zero => exact absurd hn (no _)
    | succ n =>
      unfold fitS
      split
      · rename_i z; exact fit_stop m n _ h hd z
      · rename_i z; rw [fit_on m n _ t h hd z (by simp [enc, last3, -ixD_t])]; exact iht h.2 (by simp at hd; omega) n (by simp at hn; omega)
theorem fit_eq (m : Nat) (hm : 1 ≤ m) (s : Sm) (h : s.Fine) (hd : s.depth ≤ 10) : fitF [enc s, .int m] = some (enc (fitS m s)) := by
  have q := fit_go m hm s h hd 1000 (by omega)
  unfold fitF
  rw [fnD_ap]
  have e : startR 2 [enc s, .int m] = [some (.d (enc s)), some (.d (.int m))] := rfl
  rw [e, gL_fit, gSeq_ap, q]
  simp
/-! ### what is made of the draws -/
theorem ni2 (a b x : Str) : niP (.str x) (.tuple [.str a, .str b]) = some (.bool (!(sEq a x || sEq b x))) := by
  unfold niP inD
  simp [flatD, eqv_str]
theorem in3 (a b c x : Str) : inP (.str x) (.tuple [.str a, .str b, .str c]) = some (.bool (sEq a x || sEq b x || sEq c x)) := by
  unfold inP inD
  simp [flatD, eqv_str, Bool.or_assoc]
def kindsP : List Str := ["not", "and", "or", "before", "since", "not", "and", "before", "since", "or", "since", "before"]
def kindsA : List Str := ["not", "and", "or", "next", "until", "within", "until", "next", "since", "before", "until", "within"]
theorem splitP : splitD (.str "not and or before since not and before since or since before") [.str " "] = some (.list (kindsP.map .str)) := by
  have e : Txt.split "not and or before since not and before since or since before" " " = kindsP := by decide +kernel
  unfold splitD
  simp only
  rw [if_pos (by decide +kernel), e]
theorem splitA : splitD (.str "not and or next until within until next since before until within") [.str " "] = some (.list (kindsA.map .str)) := by
  have e : Txt.split "not and or next until within until next since before until within" " " = kindsA := by decide +kernel
  unfold splitD
  simp only
  rw [if_pos (by decide +kernel), e]
def wk (more : Int) : Int := if more % 5 = 0 then 1 else if more % 5 = 1 then 2 else if more % 5 = 2 then 0 else if more % 5 = 3 then 1 else more / 6 % 5
theorem wk_ix (more : Int) : ixD (.list [.int 1, .int 2, .int 0, .int 1, .int (more / 6 % 5)]) (.int (more % 5)) = some (.int (wk more)) := by
  have h0 : 0 ≤ more % 5 := Int.emod_nonneg _ (by decide)
  have h1 : more % 5 < 5 := Int.emod_lt_of_pos _ (by decide)
  have h : more % 5 = 0 ∨ more % 5 = 1 ∨ more % 5 = 2 ∨ more % 5 = 3 ∨ more % 5 = 4 := by omega
  unfold wk
  rcases h with h | h | h | h | h <;> rw [h] <;> simp [atI, ixN]
theorem wk_in (more : Int) : 0 ≤ wk more ∧ wk more ≤ 4 := by
  have h0 : 0 ≤ more / 6 % 5 := Int.emod_nonneg _ (by decide)
  have h1 : more / 6 % 5 < 5 := Int.emod_lt_of_pos _ (by decide)
  unfold wk
  repeat' split
  all_goals omega
structure Nm where
  a : Str
  b : Str
  d : Str
def Nm.at (n : Nm) (z : Int) : Str := if z = 0 then n.a else if z = 1 then n.b else n.d
def Nm.enc (n : Nm) : PyData := dS [n.a, n.b, n.d]
theorem nm_ix (n : Nm) (z : Int) : ixD n.enc (.int (z % 3)) = some (.str (n.at (z % 3))) := by
  have h0 : 0 ≤ z % 3 := Int.emod_nonneg _ (by decide)
  have h1 : z % 3 < 3 := Int.emod_lt_of_pos _ (by decide)
  have h : z % 3 = 0 ∨ z % 3 = 1 ∨ z % 3 = 2 := by omega
  unfold Nm.at Nm.enc dS
  rcases h with h | h | h <;> rw [h] <;> simp
def leafS (n : Nm) (c : Int) : Sm := if c / 14 % 9 = 4 then .yes else .mark (n.at (c / 14 % 3))
/-- the statement that a kind makes: the first part, and what the second is where there is one -/
def joinS (j : Nat) (ahead : Bool) (more : Int) (one : Sm) (two : Sm) : Sm :=
  match ahead, j with
  | false, 0 | false, 5 | true, 0 => .not one
  | false, 3 | false, 7 | false, 11 | true, 9 => .bef one
  | true, 3 | true, 7 => .nxt one
  | true, 5 | true, 11 => .wth (wk more) one
  | false, 1 | false, 6 | true, 1 => .and one two
  | false, 2 | false, 9 | true, 2 => .or one two
  | true, 4 | true, 6 | true, 10 => .unt one two
  | _, _ => .sin one two
def isOne (j : Nat) (ahead : Bool) : Bool := match ahead, j with
  | false, 0 | false, 5 | true, 0 | false, 3 | false, 7 | false, 11 | true, 9 | true, 3 | true, 7 | true, 5 | true, 11 => true
  | _, _ => false
def staysA (j : Nat) (ahead : Bool) : Bool := ahead && !(j == 8 || j == 9)
def madeS (ns : List Int) (n : Nm) : Nat → Bool → Nat → Sm × Nat
  | 0, _, k => (leafS n (drawn ns k), k + 1)
  | 1, _, k => (leafS n (drawn ns k), k + 1)
  | d + 2, ahead, k =>
    if drawn ns k % 14 < 2 then (leafS n (drawn ns k), k + 1) else
      let j := (drawn ns k % 14 - 2).toNat
      let p := madeS ns n (d + 1) (staysA j ahead) (k + 1)
      if isOne j ahead then (joinS j ahead (drawn ns k / 14) p.1 p.1, p.2) else
        let q := madeS ns n (d + 1) (staysA j ahead) p.2
        (joinS j ahead (drawn ns k / 14) p.1 q.1, q.2)
end My

namespace My
open PySem L2 Dn TL
theorem ix_strs {L : List Str} {j : Nat} {w : Str} (h : L[j]? = some w) : ixD (.list (L.map .str)) (.int (j : Int)) = some (.str w) := by
  show atI (L.map PyData.str) (j : Int) = _
  exact atI_nat (by rw [List.getElem?_map, h]; rfl)
/-- the rest of the law's making, behind the kind -/
abbrev madeR (FL_made : List PyData → List PyData → Option (PyData × List PyData)) : Rho → Option Out := (gSeq (gSet 4 (fAnd (fV 4) (f2 niP (fV 8) (fTup (fCons (fC (.str "before")) (fCons (fC (.str "since")) fNil)))))) (gSeq (gSetE 9 (fCaC 5 FL_made 1 (fV 0) (fCons (fV 2) (fCons (f2 (ri fun i j => i - j) (fV 3) (fC (.int 1))) (fCons (fV 4) fNil))))) (gSeq (gIf (fB (f2 eqP (fV 8) (fC (.str "within")))) (gRet (fTup (fCons (fV 8) (fCons (f2 ixD (fLst (fCons (fC (.int 1)) (fCons (fC (.int 2)) (fCons (fC (.int 0)) (fCons (fC (.int 1)) (fCons (f2 modD (f2 fdivD (fV 6) (fC (.int 6))) (fC (.int 5))) fNil)))))) (f2 modD (fV 6) (fC (.int 5)))) (fCons (fV 9) fNil))))) gNx) (gSeq (gIf (fB (f2 inP (fV 8) (fTup (fCons (fC (.str "not")) (fCons (fC (.str "next")) (fCons (fC (.str "before")) fNil)))))) (gRet (fTup (fCons (fV 8) (fCons (fV 9) fNil)))) gNx) (gRetE (fTupE (fE2 (fV 8) (fE2 (fV 9) (fE1 (fCaC 5 FL_made 1 (fV 0) (fCons (fV 2) (fCons (f2 (ri fun i j => i - j) (fV 3) (fC (.int 1))) (fCons (fV 4) fNil)))) fNil)))))))))
section
variable (a : Addr) (R : List PyData → List PyData → Option (PyData × List PyData)) (ns : PyData) (nm : PyData) (d c more : Int) (kinds : PyData) (k k1 k2 : Int) (one two : Sm)
/-- one part: not, next, before -/
theorem mR_one (ah : Bool) (w : Str) (h1 : sEq w "within" = false) (h2 : (sEq "not" w || sEq "next" w || sEq "before" w) = true)
    (p : Bool) (h3 : (sEq "before" w || sEq "since" w) = p) (hR : R [ns, nm, .int (d - 1), .bool (ah && !p)] [.int k] = some (enc one, [.int k1])) :
    retC a (madeR R [some (.d ns), some (.own (some a) [.int k]), some (.d nm), some (.d (.int d)), some (.d (.bool ah)), some (.d (.int c)), some (.d (.int more)), some (.d kinds), some (.d (.str w)), none]) = some (.tuple [.str w, enc one], [.int k1]) := by
  simp [madeR, ni2, in3, hR, h1, h2, h3, retC, -Bool.not_or]
theorem mR_wth (ah : Bool) (hR : R [ns, nm, .int (d - 1), .bool ah] [.int k] = some (enc one, [.int k1])) :
    retC a (madeR R [some (.d ns), some (.own (some a) [.int k]), some (.d nm), some (.d (.int d)), some (.d (.bool ah)), some (.d (.int c)), some (.d (.int more)), some (.d kinds), some (.d (.str "within")), none]) = some (enc (.wth (wk more) one), [.int k1]) := by
  have e6 : fdivD (.int more) (.int 6) = some (.int (more / 6)) := fdivD_i (by decide)
  have m5 : ∀ z : Int, modD (.int z) (.int 5) = some (.int (z % 5)) := fun z => modD_i (by decide)
  have ix := wk_ix more
  simp only [ixD_l] at ix
  simp [madeR, ni2, hR, e6, m5, ix, retC, enc]
theorem mR_two (ah : Bool) (w : Str) (h1 : sEq w "within" = false) (h2 : (sEq "not" w || sEq "next" w || sEq "before" w) = false)
    (p : Bool) (h3 : (sEq "before" w || sEq "since" w) = p) (hR : R [ns, nm, .int (d - 1), .bool (ah && !p)] [.int k] = some (enc one, [.int k1]))
    (hR2 : R [ns, nm, .int (d - 1), .bool (ah && !p)] [.int k1] = some (enc two, [.int k2])) :
    retC a (madeR R [some (.d ns), some (.own (some a) [.int k]), some (.d nm), some (.d (.int d)), some (.d (.bool ah)), some (.d (.int c)), some (.d (.int more)), some (.d kinds), some (.d (.str w)), none]) = some (.tuple [.str w, enc one, enc two], [.int k2]) := by
  simp [madeR, ni2, in3, hR, hR2, h1, h2, h3, retC, -Bool.not_or]
end
/-- up to the kind -/
theorem made_head (a : Addr) (R : List PyData → List PyData → Option (PyData × List PyData)) (ns : List Int) (n : Nm) (d : Nat) (ah : Bool) (k : Nat) (hd : 2 ≤ d) (hc : ¬ drawn ns k % 14 < 2) (w : Str)
    (hw : (if ah then kindsA else kindsP)[(drawn ns k % 14 - 2).toNat]? = some w) :
    gL_made drawF R (startC 10 a [dI ns, n.enc, .int d, .bool ah] [.int k]) = madeR R [some (.d (dI ns)), some (.own (some a) [.int ((k + 1 : Nat) : Int)]), some (.d n.enc), some (.d (.int d)), some (.d (.bool ah)), some (.d (.int (drawn ns k))), some (.d (.int (drawn ns k / 14))), some (.d (.str (if ah then "not and or next until within until next since before until within" else "not and or before since not and before since or since before"))), some (.d (.str w)), none] := by
  have e14 : ∀ z : Int, fdivD (.int z) (.int 14) = some (.int (z / 14)) := fun z => fdivD_i (by decide)
  have m14 : ∀ z : Int, modD (.int z) (.int 14) = some (.int (z % 14)) := fun z => modD_i (by decide)
  have h1 : drawn ns k % 14 < 14 := Int.emod_lt_of_pos _ (by decide)
  have hj : ((drawn ns k % 14 - 2).toNat : Int) = drawn ns k % 14 - 2 := by omega
  have dr := drawF_eq ns k
  have hd2 : ¬ ((d : Int) < 2) := by omega
  generalize drawn ns k = c at *
  cases ah with
  | true =>
    have hA := ix_strs (L := kindsA) hw
    rw [hj] at hA
    simp [startC, gL_made, dr, e14, m14, hd2, hc, splitA, -ixD_l, hA]
  | false =>
    have hP := ix_strs (L := kindsP) hw
    rw [hj] at hP
    simp [startC, gL_made, dr, e14, m14, hd2, hc, splitP, -ixD_l, hP]
theorem made_leaf (a : Addr) (R : List PyData → List PyData → Option (PyData × List PyData)) (ns : List Int) (n : Nm) (d : Nat) (ah : Bool) (k : Nat) (h : d < 2 ∨ drawn ns k % 14 < 2) :
    retC a (gL_made drawF R (startC 10 a [dI ns, n.enc, .int d, .bool ah] [.int k])) = some (enc (leafS n (drawn ns k)), [.int ((k + 1 : Nat) : Int)]) := by
  have e14 : ∀ z : Int, fdivD (.int z) (.int 14) = some (.int (z / 14)) := fun z => fdivD_i (by decide)
  have m14 : ∀ z : Int, modD (.int z) (.int 14) = some (.int (z % 14)) := fun z => modD_i (by decide)
  have m9 : ∀ z : Int, modD (.int z) (.int 9) = some (.int (z % 9)) := fun z => modD_i (by decide)
  have m3 : ∀ z : Int, modD (.int z) (.int 3) = some (.int (z % 3)) := fun z => modD_i (by decide)
  have dr := drawF_eq ns k
  have ix := nm_ix n (drawn ns k / 14)
  generalize drawn ns k = c at *
  have t : (decide ((d : Int) < 2) || decide (c % 14 < 2)) = true := by
    rcases h with h | h
    · simp [show (d : Int) < 2 by omega]
    · simp [h]
  by_cases h9 : c / 14 % 9 = 4
  · by_cases hd : (d : Int) < 2
    · simp [startC, gL_made, dr, e14, m14, m9, m3, hd, h9, retC, leafS, enc]
    · simp [hd] at t
      simp [startC, gL_made, dr, e14, m14, m9, m3, hd, t, h9, retC, leafS, enc]
  · by_cases hd : (d : Int) < 2
    · simp [startC, gL_made, dr, e14, m14, m9, m3, hd, h9, retC, leafS, enc, ix]
    · simp [hd] at t
      simp [startC, gL_made, dr, e14, m14, m9, m3, hd, t, h9, retC, leafS, enc, ix]
end My

namespace My
open PySem L2 Dn TL
theorem made_true (a : Addr) (R : List PyData → List PyData → Option (PyData × List PyData)) (ns : List Int) (n : Nm) (d k : Nat) (hc : ¬ drawn ns k % 14 < 2)
    (hR : ∀ (ah : Bool) (k' : Nat), R [dI ns, n.enc, .int (((d + 2 : Nat) : Int) - 1), .bool ah] [.int (k' : Int)] = some (enc (madeS ns n (d + 1) ah k').1, [.int ((madeS ns n (d + 1) ah k').2 : Int)])) :
    retC a (gL_made drawF R (startC 10 a [dI ns, n.enc, .int ((d + 2 : Nat) : Int), .bool true] [.int (k : Int)])) = some (enc (madeS ns n (d + 2) true k).1, [.int ((madeS ns n (d + 2) true k).2 : Int)]) := by
  have h0 : 0 ≤ drawn ns k % 14 := Int.emod_nonneg _ (by decide)
  have h1 : drawn ns k % 14 < 14 := Int.emod_lt_of_pos _ (by decide)
  rw [madeS, if_neg hc]
  have hlt : (drawn ns k % 14 - 2).toNat < 12 := by omega
  generalize hj : (drawn ns k % 14 - 2).toNat = j at *
  match j, hlt with
  | 0, _ =>
      have hd := made_head a R ns n (d + 2) true k (by omega) hc "not" (by simp only [if_pos, if_neg Bool.false_ne_true, hj]; rfl)
      rw [hd]
      exact mR_one a R _ _ _ _ _ _ _ _ _ true "not" (by simp) (by simp) false (by simp) (hR (true && !false) (k + 1))
  | 1, _ =>
      have hd := made_head a R ns n (d + 2) true k (by omega) hc "and" (by simp only [if_pos, if_neg Bool.false_ne_true, hj]; rfl)
      rw [hd]
      exact mR_two a R _ _ _ _ _ _ _ _ _ _ _ true "and" (by simp) (by simp) false (by simp) (hR (true && !false) (k + 1)) (hR (true && !false) _)
  | 2, _ =>
      have hd := made_head a R ns n (d + 2) true k (by omega) hc "or" (by simp only [if_pos, if_neg Bool.false_ne_true, hj]; rfl)
      rw [hd]
      exact mR_two a R _ _ _ _ _ _ _ _ _ _ _ true "or" (by simp) (by simp) false (by simp) (hR (true && !false) (k + 1)) (hR (true && !false) _)
  | 3, _ =>
      have hd := made_head a R ns n (d + 2) true k (by omega) hc "next" (by simp only [if_pos, if_neg Bool.false_ne_true, hj]; rfl)
      rw [hd]
      exact mR_one a R _ _ _ _ _ _ _ _ _ true "next" (by simp) (by simp) false (by simp) (hR (true && !false) (k + 1))
  | 4, _ =>
      have hd := made_head a R ns n (d + 2) true k (by omega) hc "until" (by simp only [if_pos, if_neg Bool.false_ne_true, hj]; rfl)
      rw [hd]
      exact mR_two a R _ _ _ _ _ _ _ _ _ _ _ true "until" (by simp) (by simp) false (by simp) (hR (true && !false) (k + 1)) (hR (true && !false) _)
  | 5, _ =>
      have hd := made_head a R ns n (d + 2) true k (by omega) hc "within" (by simp only [if_pos, hj]; rfl)
      rw [hd]
      have h1 := hR true (k + 1)
      exact mR_wth a R _ _ _ _ _ _ _ _ _ true h1
  | 6, _ =>
      have hd := made_head a R ns n (d + 2) true k (by omega) hc "until" (by simp only [if_pos, if_neg Bool.false_ne_true, hj]; rfl)
      rw [hd]
      exact mR_two a R _ _ _ _ _ _ _ _ _ _ _ true "until" (by simp) (by simp) false (by simp) (hR (true && !false) (k + 1)) (hR (true && !false) _)
  | 7, _ =>
      have hd := made_head a R ns n (d + 2) true k (by omega) hc "next" (by simp only [if_pos, if_neg Bool.false_ne_true, hj]; rfl)
      rw [hd]
      exact mR_one a R _ _ _ _ _ _ _ _ _ true "next" (by simp) (by simp) false (by simp) (hR (true && !false) (k + 1))
  | 8, _ =>
      have hd := made_head a R ns n (d + 2) true k (by omega) hc "since" (by simp only [if_pos, if_neg Bool.false_ne_true, hj]; rfl)
      rw [hd]
      exact mR_two a R _ _ _ _ _ _ _ _ _ _ _ true "since" (by simp) (by simp) true (by simp) (hR (true && !true) (k + 1)) (hR (true && !true) _)
  | 9, _ =>
      have hd := made_head a R ns n (d + 2) true k (by omega) hc "before" (by simp only [if_pos, if_neg Bool.false_ne_true, hj]; rfl)
      rw [hd]
      exact mR_one a R _ _ _ _ _ _ _ _ _ true "before" (by simp) (by simp) true (by simp) (hR (true && !true) (k + 1))
  | 10, _ =>
      have hd := made_head a R ns n (d + 2) true k (by omega) hc "until" (by simp only [if_pos, if_neg Bool.false_ne_true, hj]; rfl)
      rw [hd]
      exact mR_two a R _ _ _ _ _ _ _ _ _ _ _ true "until" (by simp) (by simp) false (by simp) (hR (true && !false) (k + 1)) (hR (true && !false) _)
  | 11, _ =>
      have hd := made_head a R ns n (d + 2) true k (by omega) hc "within" (by simp only [if_pos, hj]; rfl)
      rw [hd]
      have h1 := hR true (k + 1)
      exact mR_wth a R _ _ _ _ _ _ _ _ _ true h1
  | j + 12, h => omega
theorem made_false (a : Addr) (R : List PyData → List PyData → Option (PyData × List PyData)) (ns : List Int) (n : Nm) (d k : Nat) (hc : ¬ drawn ns k % 14 < 2)
    (hR : ∀ (ah : Bool) (k' : Nat), R [dI ns, n.enc, .int (((d + 2 : Nat) : Int) - 1), .bool ah] [.int (k' : Int)] = some (enc (madeS ns n (d + 1) ah k').1, [.int ((madeS ns n (d + 1) ah k').2 : Int)])) :
    retC a (gL_made drawF R (startC 10 a [dI ns, n.enc, .int ((d + 2 : Nat) : Int), .bool false] [.int (k : Int)])) = some (enc (madeS ns n (d + 2) false k).1, [.int ((madeS ns n (d + 2) false k).2 : Int)]) := by
  have h0 : 0 ≤ drawn ns k % 14 := Int.emod_nonneg _ (by decide)
  have h1 : drawn ns k % 14 < 14 := Int.emod_lt_of_pos _ (by decide)
  rw [madeS, if_neg hc]
  have hlt : (drawn ns k % 14 - 2).toNat < 12 := by omega
  generalize hj : (drawn ns k % 14 - 2).toNat = j at *
  match j, hlt with
  | 0, _ =>
      have hd := made_head a R ns n (d + 2) false k (by omega) hc "not" (by simp only [if_pos, if_neg Bool.false_ne_true, hj]; rfl)
      rw [hd]
      exact mR_one a R _ _ _ _ _ _ _ _ _ false "not" (by simp) (by simp) false (by simp) (hR (false && !false) (k + 1))
  | 1, _ =>
      have hd := made_head a R ns n (d + 2) false k (by omega) hc "and" (by simp only [if_pos, if_neg Bool.false_ne_true, hj]; rfl)
      rw [hd]
      exact mR_two a R _ _ _ _ _ _ _ _ _ _ _ false "and" (by simp) (by simp) false (by simp) (hR (false && !false) (k + 1)) (hR (false && !false) _)
  | 2, _ =>
      have hd := made_head a R ns n (d + 2) false k (by omega) hc "or" (by simp only [if_pos, if_neg Bool.false_ne_true, hj]; rfl)
      rw [hd]
      exact mR_two a R _ _ _ _ _ _ _ _ _ _ _ false "or" (by simp) (by simp) false (by simp) (hR (false && !false) (k + 1)) (hR (false && !false) _)
  | 3, _ =>
      have hd := made_head a R ns n (d + 2) false k (by omega) hc "before" (by simp only [if_pos, if_neg Bool.false_ne_true, hj]; rfl)
      rw [hd]
      exact mR_one a R _ _ _ _ _ _ _ _ _ false "before" (by simp) (by simp) true (by simp) (hR (false && !true) (k + 1))
  | 4, _ =>
      have hd := made_head a R ns n (d + 2) false k (by omega) hc "since" (by simp only [if_pos, if_neg Bool.false_ne_true, hj]; rfl)
      rw [hd]
      exact mR_two a R _ _ _ _ _ _ _ _ _ _ _ false "since" (by simp) (by simp) true (by simp) (hR (false && !true) (k + 1)) (hR (false && !true) _)
  | 5, _ =>
      have hd := made_head a R ns n (d + 2) false k (by omega) hc "not" (by simp only [if_pos, if_neg Bool.false_ne_true, hj]; rfl)
      rw [hd]
      exact mR_one a R _ _ _ _ _ _ _ _ _ false "not" (by simp) (by simp) false (by simp) (hR (false && !false) (k + 1))
  | 6, _ =>
      have hd := made_head a R ns n (d + 2) false k (by omega) hc "and" (by simp only [if_pos, if_neg Bool.false_ne_true, hj]; rfl)
      rw [hd]
      exact mR_two a R _ _ _ _ _ _ _ _ _ _ _ false "and" (by simp) (by simp) false (by simp) (hR (false && !false) (k + 1)) (hR (false && !false) _)
  | 7, _ =>
      have hd := made_head a R ns n (d + 2) false k (by omega) hc "before" (by simp only [if_pos, if_neg Bool.false_ne_true, hj]; rfl)
      rw [hd]
      exact mR_one a R _ _ _ _ _ _ _ _ _ false "before" (by simp) (by simp) true (by simp) (hR (false && !true) (k + 1))
  | 8, _ =>
      have hd := made_head a R ns n (d + 2) false k (by omega) hc "since" (by simp only [if_pos, if_neg Bool.false_ne_true, hj]; rfl)
      rw [hd]
      exact mR_two a R _ _ _ _ _ _ _ _ _ _ _ false "since" (by simp) (by simp) true (by simp) (hR (false && !true) (k + 1)) (hR (false && !true) _)
  | 9, _ =>
      have hd := made_head a R ns n (d + 2) false k (by omega) hc "or" (by simp only [if_pos, if_neg Bool.false_ne_true, hj]; rfl)
      rw [hd]
      exact mR_two a R _ _ _ _ _ _ _ _ _ _ _ false "or" (by simp) (by simp) false (by simp) (hR (false && !false) (k + 1)) (hR (false && !false) _)
  | 10, _ =>
      have hd := made_head a R ns n (d + 2) false k (by omega) hc "since" (by simp only [if_pos, if_neg Bool.false_ne_true, hj]; rfl)
      rw [hd]
      exact mR_two a R _ _ _ _ _ _ _ _ _ _ _ false "since" (by simp) (by simp) true (by simp) (hR (false && !true) (k + 1)) (hR (false && !true) _)
  | 11, _ =>
      have hd := made_head a R ns n (d + 2) false k (by omega) hc "before" (by simp only [if_pos, if_neg Bool.false_ne_true, hj]; rfl)
      rw [hd]
      exact mR_one a R _ _ _ _ _ _ _ _ _ false "before" (by simp) (by simp) true (by simp) (hR (false && !true) (k + 1))
  | j + 12, h => omega
end My

namespace My
open PySem L2 Dn TL
structure Nm.Ok (n : Nm) : Prop where
  a : Ltr n.a
  b : Ltr n.b
  d : Ltr n.d
theorem leaf_fine {n : Nm} (h : n.Ok) (c : Int) : (leafS n c).Fine ∧ (leafS n c).depth = 1 := by
  unfold leafS
  split
  · exact ⟨True.intro, rfl⟩
  · refine ⟨?_, rfl⟩
    show Ltr _
    unfold Nm.at
    split
    · exact h.a
    · split
      · exact h.b
      · exact h.d
theorem join_fine {j : Nat} {ah : Bool} {more : Int} {s t : Sm} {d : Nat} (hs : s.Fine ∧ s.depth ≤ d) (ht : t.Fine ∧ t.depth ≤ d) : (joinS j ah more s t).Fine ∧ (joinS j ah more s t).depth ≤ d + 1 := by
  have hw := wk_in more
  unfold joinS
  split <;> first
    | exact ⟨hs.1, by simp; omega⟩
    | exact ⟨⟨hs.1, ht.1⟩, by simp; omega⟩
    | exact ⟨⟨hw.1, hw.2, hs.1⟩, by simp; omega⟩
theorem made_fine (ns : List Int) {n : Nm} (h : n.Ok) : ∀ (d : Nat) (ah : Bool) (k : Nat), (madeS ns n d ah k).1.Fine ∧ (madeS ns n d ah k).1.depth ≤ max d 1
  | 0, ah, k => by have := leaf_fine h (drawn ns k); exact ⟨this.1, by rw [madeS]; dsimp only; omega⟩
  | 1, ah, k => by have := leaf_fine h (drawn ns k); exact ⟨this.1, by rw [madeS]; dsimp only; omega⟩
  | d + 2, ah, k => by
    have ih := made_fine ns h (d + 1)
    rw [madeS]
    split
    · have := leaf_fine h (drawn ns k); exact ⟨this.1, by dsimp only; omega⟩
    · simp only
      have e : max (d + 2) 1 = (d + 1) + 1 := by omega
      rw [e]
      split
      · have i1 := ih (staysA (drawn ns k % 14 - 2).toNat ah) (k + 1)
        rw [show max (d + 1) 1 = d + 1 by omega] at i1
        exact join_fine i1 i1
      · have i1 := ih (staysA (drawn ns k % 14 - 2).toNat ah) (k + 1)
        have i2 := ih (staysA (drawn ns k % 14 - 2).toNat ah) (madeS ns n (d + 1) (staysA (drawn ns k % 14 - 2).toNat ah) (k + 1)).2
        rw [show max (d + 1) 1 = d + 1 by omega] at i1 i2
        exact join_fine i1 i2
theorem strsD_inv : ∀ {vs : List PyData} {ns : List Str}, strsD vs = some ns → vs = ns.map .str
  | [], ns, h => by cases h; rfl
  | .str i :: r, ns, h => by
    simp only [strsD] at h
    obtain ⟨ms, e, rfl⟩ := Option.map_eq_some_iff.mp h
    rw [strsD_inv e]; rfl
  | .none :: r, ns, h => by simp [strsD] at h
  | .bool _ :: r, ns, h => by simp [strsD] at h
  | .int _ :: r, ns, h => by simp [strsD] at h
  | .list _ :: r, ns, h => by simp [strsD] at h
  | .tuple _ :: r, ns, h => by simp [strsD] at h
  | .dict _ :: r, ns, h => by simp [strsD] at h
def nmOf : List PyData → Option Nm := fun xs => match strsD xs with
  | some [a, b, c] => some ⟨a, b, c⟩
  | _ => none
theorem nmOf_enc (n : Nm) : nmOf [.str n.a, .str n.b, .str n.d] = some n := rfl
theorem nmOf_inv {xs : List PyData} {n : Nm} (h : nmOf xs = some n) : PyData.list xs = n.enc := by
  unfold nmOf at h
  split at h
  · rename_i a b c e
    cases h
    rw [strsD_inv e]; rfl
  · cases h
def madeF (m : Nat) (ds xs : List PyData) : Option (PyData × List PyData) := match ds, xs with
  | [.list vs, .list nm, .int d, .bool ah], [.int k] => (drawF.strsI vs).bind fun ns => (nmOf nm).bind fun n => if (0 ≤ d ∧ d.toNat < m) ∧ 0 ≤ k then some (enc (madeS ns n d.toNat ah k.toNat).1, [.int ((madeS ns n d.toNat ah k.toNat).2 : Int)]) else none
  | _, _ => none
theorem madeF_0 : madeF 0 = fun _ _ => none := by
  funext ds xs
  unfold madeF
  split
  · rename_i vs nm d ah k
    cases drawF.strsI vs with
    | none => rfl
    | some ns =>
      cases nmOf nm with
      | none => rfl
      | some n => simp
  · rfl
theorem madeF_eq (m : Nat) (ns : List Int) (n : Nm) (d : Nat) (ah : Bool) (k : Nat) (h : d < m) : madeF m [dI ns, n.enc, .int (d : Int), .bool ah] [.int (k : Int)] = some (enc (madeS ns n d ah k).1, [.int ((madeS ns n d ah k).2 : Int)]) := by
  unfold madeF dI Nm.enc dS
  simp only [List.map_cons, List.map_nil]
  rw [strsI_map, nmOf_enc]
  simp only [Option.bind_some]
  rw [if_pos ⟨⟨by omega, by omega⟩, by omega⟩]
  simp
theorem made_run (a : Addr) (m : Nat) (ns : List Int) (n : Nm) (d : Nat) (ah : Bool) (k : Nat) (h : d < m + 1) : retC a (gL_made drawF (madeF m) (startC 10 a [dI ns, n.enc, .int (d : Int), .bool ah] [.int (k : Int)])) = some (enc (madeS ns n d ah k).1, [.int ((madeS ns n d ah k).2 : Int)]) := by
  match d, h with
  | 0, _ => exact made_leaf a _ ns n 0 ah k (.inl (by decide))
  | 1, _ => exact made_leaf a _ ns n 1 ah k (.inl (by decide))
  | d + 2, h =>
    by_cases hc : drawn ns k % 14 < 2
    · rw [madeS, if_pos hc]
      exact made_leaf a _ ns n (d + 2) ah k (.inr hc)
    · have hR : ∀ (ah : Bool) (k' : Nat), madeF m [dI ns, n.enc, .int (((d + 2 : Nat) : Int) - 1), .bool ah] [.int (k' : Int)] = some (enc (madeS ns n (d + 1) ah k').1, [.int ((madeS ns n (d + 1) ah k').2 : Int)]) := fun ah k' => by
        rw [show ((d + 2 : Nat) : Int) - 1 = ((d + 1 : Nat) : Int) by omega]
        exact madeF_eq m ns n (d + 1) ah k' (by omega)
      cases ah with
      | true => exact made_true a _ ns n d k hc hR
      | false => exact made_false a _ ns n d k hc hR
theorem madeF_run (m : Nat) (a : Addr) (ds xs : List PyData) (r : PyData × List PyData) (hl : ds.length + 1 = 5) (h : madeF (m + 1) ds xs = some r) : retC a (gL_made drawF (madeF m) (startC 10 a ds xs)) = some r := by
  unfold madeF at h
  split at h
  · rename_i vs nm d ah k
    obtain ⟨ns, e1, h⟩ := bind_some h
    obtain ⟨n, e2, h⟩ := bind_some h
    obtain ⟨⟨⟨h1, h2⟩, h3⟩, rfl⟩ := ite_some h
    have q := made_run a m ns n d.toNat ah k.toNat h2
    rw [show ((d.toNat : Nat) : Int) = d by omega, show ((k.toNat : Nat) : Int) = k by omega] at q
    rw [strsI_inv e1, nmOf_inv e2]
    exact q
  · cases h
/-! ### built, run -/
def deepOf (ns : List Int) : Nat := if cellAt ns 1 % 8 = 5 then 6 else 5
def builtS (ns : List Int) (n : Nm) (m : Nat) : Sm := fitS m (madeS ns n (deepOf ns) true 2).1
def builtF : List PyData → Option PyData := fnD 5 (gL_built cellF fitF (madeF 8))
theorem built_fine (ns : List Int) {n : Nm} (h : n.Ok) (m : Nat) (hm : 1 ≤ m) : (builtS ns n m).Fine ∧ (builtS ns n m).depth ≤ 6 ∧ (wishL (builtS ns n m)).length ≤ m := by
  have q := made_fine ns h (deepOf ns) true 2
  have q2 := fitS_fine m hm _ q.1
  have hd : deepOf ns ≤ 6 := by unfold deepOf; split <;> omega
  exact ⟨q2.1, by have := q2.2.1; have := q.2; unfold builtS; omega, q2.2.2⟩
theorem built_eq (ns : List Int) {n : Nm} (h : n.Ok) (m : Nat) (hm : 1 ≤ m) : builtF [dI ns, n.enc, .int (m : Int)] = some (enc (builtS ns n m)) := by
  have q := made_fine ns h (deepOf ns) true 2
  have hd : deepOf ns ≤ 6 := by unfold deepOf; split <;> omega
  have f := fit_eq m hm (madeS ns n (deepOf ns) true 2).1 q.1 (by have := q.2; omega)
  have c := cell_eq ns 1
  have m8 : modD (.int (cellAt ns 1)) (.int 8) = some (.int (cellAt ns 1 % 8)) := modD_i (by decide)
  have mk := madeF_eq 8 ns n (deepOf ns) true 2 (by omega)
  unfold builtF
  by_cases h5 : cellAt ns 1 % 8 = 5
  · have e : deepOf ns = 6 := by unfold deepOf; rw [if_pos h5]
    rw [e] at mk f
    simp at mk c
    simp [fnD_ap, startR, gL_built, c, m8, h5, mk, f, builtS, e]
  · have e : deepOf ns = 5 := by unfold deepOf; rw [if_neg h5]
    rw [e] at mk f
    simp at mk c
    simp [fnD_ap, startR, gL_built, c, m8, h5, mk, f, builtS, e]
def pick8 (n : Nm) (z : Int) : Str := match (z % 8).toNat with
  | 0 => n.a
  | 1 => n.b
  | 2 => n.d
  | 3 => ""
  | 4 => cutS n.d none (some 1) ++ "zq"
  | 5 => n.a
  | 6 => n.b
  | _ => n.d
def runS (ns : List Int) (n : Nm) (b m : Nat) : List Str := (cutL ns (some (b : Int)) (some ((b : Int) + m))).map (pick8 n)
def runF : List PyData → Option PyData := fnD 6 gL_run
theorem cutL_map {α β : Type} (f : α → β) (as : List α) (l u : Option Int) : cutL (as.map f) l u = (cutL as l u).map f := by
  unfold cutL
  simp [List.map_drop, List.map_take]
theorem cutL_len {α : Type} (as : List α) (b m : Nat) : (cutL as (some (b : Int)) (some ((b : Int) + m))).length ≤ m := by
  unfold cutL
  rw [show (b : Int) + m = ((b + m : Nat) : Int) by omega, HT.sIx_nat, HT.sIx_nat, List.length_take, List.length_drop]
  omega
theorem run_eq (ns : List Int) {n : Nm} (h : n.Ok) (b m : Nat) (hm : m ≤ 1000) : runF [dI ns, .int (b : Int), n.enc, .int (m : Int)] = some (dS (runS ns n b m)) := by
  have hd := h.d
  have l1 : (cutS n.d none (some 1)).length ≤ 6 := Nat.le_trans (cutS_length _ _ _) hd.hi
  have l2 : (Str.ofString "zq").length = 2 := by decide +kernel
  have s1 : slD none (some 1) (.str n.d) = some (.str (cutS n.d none (some 1))) := slD_s (by have := hd.hi; omega)
  have a1 : addD (.str (cutS n.d none (some 1))) (.str "zq") = some (.str (cutS n.d none (some 1) ++ "zq")) := addD_s (by rw [l2]; omega)
  have a2 : addD n.enc (.list [.str "", .str (cutS n.d none (some 1) ++ "zq")]) = some (.list [.str n.a, .str n.b, .str n.d, .str "", .str (cutS n.d none (some 1) ++ "zq")]) := addD_l (by simp)
  have a3 : addD (.list [.str n.a, .str n.b, .str n.d, .str "", .str (cutS n.d none (some 1) ++ "zq")]) n.enc = some (.list [.str n.a, .str n.b, .str n.d, .str "", .str (cutS n.d none (some 1) ++ "zq"), .str n.a, .str n.b, .str n.d]) := addD_l (by simp)
  have ix2 : ixD n.enc (.int 2) = some (.str n.d) := by simp [Nm.enc, dS]
  have m8 : ∀ z : Int, modD (.int z) (.int 8) = some (.int (z % 8)) := fun z => modD_i (by decide)
  have pk : ∀ z : Int, ixD (.list [.str n.a, .str n.b, .str n.d, .str "", .str (cutS n.d none (some 1) ++ "zq"), .str n.a, .str n.b, .str n.d]) (.int (z % 8)) = some (.str (pick8 n z)) := fun z => by
    have h0 : 0 ≤ z % 8 := Int.emod_nonneg _ (by decide)
    have h1 : z % 8 < 8 := Int.emod_lt_of_pos _ (by decide)
    unfold pick8
    generalize hj : (z % 8).toNat = j
    have e : z % 8 = (j : Int) := by omega
    rw [e]
    have hj8 : j < 8 := by omega
    match j, hj8 with
    | 0, _ => exact atI_nat rfl
    | 1, _ => exact atI_nat rfl
    | 2, _ => exact atI_nat rfl
    | 3, _ => exact atI_nat rfl
    | 4, _ => exact atI_nat rfl
    | 5, _ => exact atI_nat rfl
    | 6, _ => exact atI_nat rfl
    | 7, _ => exact atI_nat rfl
  have cl : slD (some (b : Int)) (some ((b : Int) + m)) (dI ns) = some (.list ((cutL ns (some (b : Int)) (some ((b : Int) + m))).map .int)) := by simp [dI, cutL_map]
  have hlen := cutL_len ns b m
  generalize hc : cutL ns (some (b : Int)) (some ((b : Int) + m)) = cs at *
  have q := lc_map (bd := b1 5) (t := tYesD) (f := f2 ixD (fV 4) (f2 modD (fV 5) (fC (.int 8)))) (ρ := [some (.d (dI ns)), some (.d (.int (b : Int))), some (.d n.enc), some (.d (.int (m : Int))), some (.d (.list [.str n.a, .str n.b, .str n.d, .str "", .str (cutS n.d none (some 1) ++ "zq"), .str n.a, .str n.b, .str n.d])), none]) PyData.int (fun z => .str (pick8 n z)) cs
    (by intro z _; exact ⟨_, rfl, rfl, by simp [m8, -ixD_l, pk]⟩)
  unfold runF
  rw [fnD_ap]
  have e : startR 6 [dI ns, .int (b : Int), n.enc, .int (m : Int)] = [some (.d (dI ns)), some (.d (.int (b : Int))), some (.d n.enc), some (.d (.int (m : Int))), none, none] := rfl
  rw [e, gL_run]
  simp [-ixD_l, ix2, s1, a1, a2, a3, cl]
  rw [lcO_some (by simp; omega), q]
  simp [runS, dS, hc, Function.comp_def]
end My

namespace My
open PySem L2 Dn TL
def holdsF : List PyData → Option PyData := fnD 3 (gholds (rowF 8))
theorem holds_eq (s : Sm) (hd : s.depth ≤ 8) (r : List Str) (hr : r.length ≤ 1000) (i : Nat) (b : Bool) (h : (rows s r)[i]? = some b) : holdsF [enc s, dS r, .int (i : Int)] = some (.bool b) := by
  have q := rowF_eq r hr s 8 hd
  have e : ixD (dB (rows s r)) (.int (i : Int)) = some (.bool b) := by
    show atI ((rows s r).map PyData.bool) (i : Int) = _
    exact atI_nat (by rw [List.getElem?_map, h]; rfl)
  unfold holdsF
  simp [fnD_ap, startR, gholds, q, e]
theorem isi_bool (b : Bool) : isiD "bool" (.bool b) = some (.bool true) := by
  unfold isiD
  show (kitB "bool" "bool").map _ = _
  rw [show kitB "bool" "bool" = some true by decide +kernel]
  rfl
theorem eqv_strs (r : List Str) : PyData.eqvAll (r.map .str) (r.map .str) = true := by
  induction r with
  | nil => exact eqvAll_0
  | cons x r ih => simp [eqvAll_c, eqv_str, ih]
theorem shaped_strs {r : List Str} (h : ∀ x ∈ r, PyData.strOk x = true) : SeqAt.shaped (dS r) = true := by
  have h1 : PyData.canLayAll0 (r.map .str) = true ∧ PyData.depthAll (r.map .str) = 0 := by
    induction r with
    | nil => simp [PyData.canLayAll0, PyData.depthAll]
    | cons x r ih =>
      obtain ⟨i1, i2⟩ := ih fun s hs => h s (by simp [hs])
      simp only [List.map_cons, PyData.canLayAll0, PyData.depthAll, PyData.canLay0, PyData.depth, h x (by simp), i1, i2]
      exact ⟨rfl, rfl⟩
  simp [SeqAt.shaped, dS, PyData.canLay0, PyData.depth, h1.1, h1.2]
theorem eq_strs {r : List Str} (h : ∀ x ∈ r, PyData.strOk x = true) : eqP (dS r) (dS r) = some (.bool true) := by
  have e : eqD (dS r) (dS r) = if (SeqAt.shaped (dS r) && SeqAt.shaped (dS r)) = true then some (PyData.eqv (dS r) (dS r)) else none := rfl
  have v : PyData.eqv (dS r) (dS r) = true := by
    unfold dS
    simp only [PyData.eqv]
    exact eqv_strs r
  unfold eqP
  rw [e, shaped_strs h, v]
  rfl
theorem strOk_of {z : Str} (h : ∀ c ∈ tl z, c < 1114112) : PyData.strOk z = true := by
  unfold PyData.strOk
  rw [Array.all_eq_true_iff_forall_mem]
  intro c hc
  exact decide_eq_true (h c (by simpa [tl] using hc))
theorem pick_ok {n : Nm} (h : n.Ok) (z : Int) : PyData.strOk (pick8 n z) = true := by
  unfold pick8
  split
  · exact ltr_ok h.a
  · exact ltr_ok h.b
  · exact ltr_ok h.d
  · decide +kernel
  · refine strOk_of fun c hc => ?_
    rw [tl_append, List.mem_append] at hc
    rcases hc with hc | hc
    · have e := cut_to n.d 1
      rw [show ((1 : Nat) : Int) = 1 from rfl] at e
      rw [e] at hc
      have := h.d.ab c (List.mem_of_mem_take hc)
      omega
    · have : tl (Str.ofString "zq") = [122, 113] := by decide +kernel
      rw [this] at hc
      simp at hc
      omega
  · exact ltr_ok h.a
  · exact ltr_ok h.b
  · exact ltr_ok h.d
theorem run_ok (ns : List Int) {n : Nm} (h : n.Ok) (b m : Nat) : ∀ x ∈ runS ns n b m, PyData.strOk x = true := fun x hx => by
  unfold runS at hx
  obtain ⟨z, _, rfl⟩ := List.mem_map.mp hx
  exact pick_ok h z
abbrev lawB : Rho → Option Out := (gSeq (gSet 8 (fCa 3 holdsF (fCons (fV 2) (fCons (fV 5) (fCons (fV 7) fNil))))) (gIf (fOrT (fNotT (fB (f1 (isiD "bool") (fV 8)))) (fB (f2 neP (fV 8) (f2 ixD (fV 6) (fV 7))))) (gRet (fC (.bool false))) gNx))
theorem lawGo (s : Sm) (hd : s.depth ≤ 8) (r : List Str) (hr : r.length ≤ 1000) (x0 x1 x3 x4 : Option Sv) : ∀ (is : List Nat) (x7 x8 : Option Sv), (∀ i ∈ is, i < r.length) →
    ∃ x7' x8', forGo (b1 7) lawB (is.map fun (i : Nat) => .int (i : Int)) [x0, x1, some (.d (enc s)), x3, x4, some (.d (dS r)), some (.d (dB (rows s r))), x7, x8] = some (.nx [x0, x1, some (.d (enc s)), x3, x4, some (.d (dS r)), some (.d (dB (rows s r))), x7', x8'])
  | [], x7, x8, _ => ⟨x7, x8, rfl⟩
  | i :: is, x7, x8, h => by
    have hi : i < (rows s r).length := by rw [rows_len]; exact h i (by simp)
    have g : (rows s r)[i]? = some (rows s r)[i] := by simp [hi]
    have q := holds_eq s hd r hr i _ g
    have e : ixD (dB (rows s r)) (.int (i : Int)) = some (.bool (rows s r)[i]) := by
      show atI ((rows s r).map PyData.bool) (i : Int) = _
      exact atI_nat (by rw [List.getElem?_map, g]; rfl)
    obtain ⟨x7', x8', ih⟩ := lawGo s hd r hr x0 x1 x3 x4 is (some (.d (.int (i : Int)))) (some (.d (.bool (rows s r)[i]))) fun j hj => h j (by simp [hj])
    refine ⟨x7', x8', ?_⟩
    rw [List.map_cons, forGo_c, b1_ap, forB_some]
    simp only [List.set_cons_succ, List.set_cons_zero]
    rw [show lawB [x0, x1, some (.d (enc s)), x3, x4, some (.d (dS r)), some (.d (dB (rows s r))), some (.d (.int (i : Int))), x8] = some (.nx [x0, x1, some (.d (enc s)), x3, x4, some (.d (dS r)), some (.d (dB (rows s r))), some (.d (.int (i : Int))), some (.d (.bool (rows s r)[i]))]) by simp [lawB, q, isi_bool, e]]
    rw [forN_nx, ih]
/-- the law's statement: mixed in some scripts -/
def stmtOf (ns : List Int) (n : Nm) : Sm :=
  if cellAt ns 1 / 8 % 6 < 2 ∧ ¬ cellAt ns 1 % 8 = 5 then (if cellAt ns 1 / 8 % 6 = 0 then .bef (builtS ns n 99) else .sin (builtS ns n 99) (.mark n.b)) else builtS ns n 99
theorem law_eq (ns : List Int) : fnD 9 (glaw cellF namesF builtF runF (meansF 8) holdsF) [dI ns] = some (.bool true) := by
  obtain ⟨a, b, d, nm, ha, hb, hd⟩ := names_eq (cellAt ns 0)
  have hn : Nm.Ok ⟨a, b, d⟩ := ⟨ha, hb, hd⟩
  generalize hN : (⟨a, b, d⟩ : Nm) = n at hn
  have nm : namesF [.int (cellAt ns 0)] = some n.enc := by rw [nm, ← hN]; rfl
  have nb : ixD n.enc (.int 1) = some (.str n.b) := by simp [Nm.enc, dS]
  have c0 : cellF [dI ns, .int 0] = some (.int (cellAt ns 0)) := cell_eq ns 0
  have c1 : cellF [dI ns, .int 1] = some (.int (cellAt ns 1)) := cell_eq ns 1
  have bt : builtF [dI ns, n.enc, .int 99] = some (enc (builtS ns n 99)) := built_eq ns hn 99 (by decide)
  have bf := built_fine ns hn 99 (by decide)
  have rn : runF [dI ns, .int 3, n.enc, .int 12] = some (dS (runS ns n 3 12)) := run_eq ns hn 3 12 (by decide)
  have hlen : (runS ns n 3 12).length ≤ 12 := by unfold runS; rw [List.length_map]; exact cutL_len ns 3 12
  have hok := run_ok ns hn 3 12
  have e8 : ∀ z : Int, fdivD (.int z) (.int 8) = some (.int (z / 8)) := fun z => fdivD_i (by decide)
  have m8 : ∀ z : Int, modD (.int z) (.int 8) = some (.int (z % 8)) := fun z => modD_i (by decide)
  have m6 : ∀ z : Int, modD (.int z) (.int 6) = some (.int (z % 6)) := fun z => modD_i (by decide)
  have w0 : 0 ≤ cellAt ns 1 / 8 % 6 := Int.emod_nonneg _ (by decide)
  -- what follows once the statement is there
  have fin : ∀ s : Sm, s.depth ≤ 8 → ∀ x3 : Option Sv, retD ((gSeq (gSet 4 (fCa 4 runF (fCons (fV 0) (fCons (fC (.int 3)) (fCons (fV 1) (fCons (fC (.int 12)) fNil)))))) (gSeq (gSet 5 (fCl (one1 listD) (fCons (fV 4) fNil))) (gSeq (gSet 6 (fCa 2 (meansF 8) (fCons (fV 2) (fCons (fV 4) fNil)))) (gSeq (gFor (fR1 (fCl (one1 lenD) (fCons (fV 4) fNil))) (b1 7) lawB) (gRet (f2 eqP (fV 5) (fV 4))))))) [some (.d (dI ns)), some (.d n.enc), some (.d (enc s)), x3, none, none, none, none, none]) = some (.bool true) := by
    intro s hs x3
    generalize runS ns n 3 12 = r at *
    have mn := meansF_eq r (by omega) s 8 hs
    have ln : listD (dS r) = some (dS r) := rfl
    have ll : lenD (dS r) = some (.int (r.length : Int)) := by simp [dS]
    have rg := range_n r (by omega)
    obtain ⟨x7, x8, go⟩ := lawGo s hs r (by omega) (some (.d (dI ns))) (some (.d n.enc)) x3 (some (.d (dS r))) (List.range r.length) none none (by intro i hi; simpa using hi)
    have q := eq_strs hok
    simp [rn, ln, mn, ll, rg]
    rw [go]
    simp [q]
  rw [fnD_ap]
  have e : startR 9 [dI ns] = [some (.d (dI ns)), none, none, none, none, none, none, none, none] := rfl
  rw [e, glaw]
  by_cases hw : cellAt ns 1 / 8 % 6 < 2
  · by_cases h5 : cellAt ns 1 % 8 = 5
    · have := fin (builtS ns n 99) (by omega) (some (.d (.int (cellAt ns 1 / 8 % 6))))
      simp [c0, c1, nm, bt, e8, m8, m6, hw, h5] at this ⊢
      exact this
    · rcases (show cellAt ns 1 / 8 % 6 = 0 ∨ cellAt ns 1 / 8 % 6 = 1 by omega) with h | h
      · have := fin (.bef (builtS ns n 99)) (by simp; omega) (some (.d (.int 0)))
        simp [c0, c1, nm, bt, e8, m8, m6, h, h5, nb, enc] at this ⊢
        exact this
      · have := fin (.sin (builtS ns n 99) (.mark n.b)) (by simp; omega) (some (.d (.int 1)))
        simp [c0, c1, nm, bt, e8, m8, m6, h, h5, nb, enc] at this ⊢
        exact this
  · have := fin (builtS ns n 99) (by omega) (some (.d (.int (cellAt ns 1 / 8 % 6))))
    simp [c0, c1, nm, bt, e8, m8, m6, hw] at this ⊢
    exact this
end My

namespace My
open PySem L2 Dn
def spLaw (K : PySem.W.Frag) : Sp := fun vs H Q _ => ∃ (a : Addr) (ns : List Int), vs = [.ref a] ∧ SqL K H a (ns.map V.int) ∧ ns.length ≤ 63 ∧ ∀ H', Q (.bl true) H'
theorem dp_ints {K : PySem.W.Frag} {H : Hp} (ns : List Int) : DpAll K H (ns.map V.int) (ns.map PyData.int) := by
  induction ns with
  | nil => exact .nil
  | cons n r ih => exact .cons (.int n) ih
/-- a law that is worth True at every list of ints -/
theorem law_of {P : Program} {w : World} {K : PySem.W.Frag} {mg : Str → Option Value} {base : Heap} {k : Nat} {f : Addr} {fd : FuncData} {ps : List Str} {F : List PyData → Option PyData} (h : FnOk P w K mg base CX0 k f fd ps (spD K 1 F)) (hF : ∀ ns : List Int, F [dI ns] = some (.bool true)) : FnOk P w K mg base CX0 k f fd ps (spLaw K) :=
  h.imp fun vs H Q E ⟨a, ns, e, hS, _, q⟩ => ⟨H, [dI ns], .bool true, Same.refl H, by rw [e]; exact .cons (.lst hS (dp_ints ns)) .nil, rfl, hF ns, fun v B' H' t d => by cases d; exact q H'⟩
section
variable {P : Program} {w : World} {K : PySem.W.Frag} {mg : Str → Option Value} {base : Heap}
theorem chain {f : Addr} {fd : FuncData} (hB : Bl mg) (Dparts_of : Df K mg "parts_of" sparts_of ["statement"]) (Dsince : Df K mg "_since" ssince ["first", "second"]) (Drow_of_two : Df K mg "_row_of_two" srow_of_two ["word", "first", "second"]) (Drow_of_one : Df K mg "_row_of_one" srow_of_one ["word", "row"]) (Drow_of : Df K mg "row_of" srow_of ["statement", "run"]) (Dholds : Df K mg "holds" sholds ["statement", "run", "at"]) (DL_cell_at : Df K mg "_law_cell_at" sL_cell_at ["_law_script", "_law_k"]) (DL_draw : Df K mg "_law_draw" sL_draw ["_law_script", "_law_spot"]) (DL_names : Df K mg "_law_names" sL_names ["_law_cell"]) (DL_made : Df K mg "_law_made" sL_made ["_law_script", "_law_spot", "_law_names_here", "_law_deep", "_law_ahead"]) (DL_all : Df K mg "_law_all" sL_all ["_law_statement"]) (DL_wishes : Df K mg "_law_wishes" sL_wishes ["_law_statement"]) (DL_fit : Df K mg "_law_fit" sL_fit ["_law_statement", "_law_most"]) (DL_until : Df K mg "_law_until" sL_until ["_law_ones", "_law_others"]) (DL_means : Df K mg "_law_means" sL_means ["_law_statement", "_law_run_here"]) (DL_run : Df K mg "_law_run" sL_run ["_law_script", "_law_begin", "_law_names_here", "_law_most"]) (DL_built : Df K mg "_law_built" sL_built ["_law_script", "_law_names_here", "_law_most"]) (F : Fun K "law" "law" slaw f fd) : FnOk P w K mg base CX0 20 f fd ["_law_script"] (spLaw K) := by
  have kparts : Kn P w K mg base 1 1 "parts_of" partsF := okparts_of hB Dparts_of
  have ksince : Kn P w K mg base 1 2 "_since" sinceF := oksince hB Dsince
  have ktwo : Kn P w K mg base 2 3 "_row_of_two" twoF := okrow_of_two hB Drow_of_two ksince
  have kone : Kn P w K mg base 1 2 "_row_of_one" oneF := okrow_of_one hB Drow_of_one
  have krow : ∀ n : Nat, Kn P w K mg base (2 + n) 2 "row_of" (rowF n) := fun n => by
    induction n with
    | zero => exact Kn.none Drow_of
    | succ n ih => exact okrow_of (k := 2 + n) hB Drow_of (kparts.mono (by omega)) ih (kone.mono (by omega)) (ktwo.mono (by omega))
  have kholds : Kn P w K mg base 11 3 "holds" holdsF := okholds hB Dholds (krow 8)
  have kcell : Kn P w K mg base 1 2 "_law_cell_at" cellF := okL_cell_at hB DL_cell_at
  have kdraw : KnC P w K mg base 1 2 "_law_draw" drawF := okL_draw hB DL_draw drawF_run
  have knames : Kn P w K mg base 1 1 "_law_names" namesF := okL_names hB DL_names
  have kmade : ∀ n : Nat, KnC P w K mg base (1 + n) 5 "_law_made" (madeF n) := fun n => by
    induction n with
    | zero => rw [madeF_0]; exact KnC.none DL_made
    | succ n ih => exact okL_made (k := 1 + n) hB DL_made (madeF_run n) (kdraw.mono (by omega)) ih
  have kall : ∀ n : Nat, Kn P w K mg base n 1 "_law_all" (allF n) := fun n => by
    induction n with
    | zero => exact Kn.none DL_all
    | succ n ih => exact okL_all hB DL_all ih
  have kwish : Kn P w K mg base 15 1 "_law_wishes" wishesF := okL_wishes hB DL_wishes (kall 14)
  have kfit : Kn P w K mg base 16 2 "_law_fit" fitF := okL_fit hB DL_fit kwish
  have kuntil : Kn P w K mg base 1 2 "_law_until" untilF := okL_until hB DL_until
  have kmeans : ∀ n : Nat, Kn P w K mg base (1 + n) 2 "_law_means" (meansF n) := fun n => by
    induction n with
    | zero => exact Kn.none DL_means
    | succ n ih => exact okL_means (k := 1 + n) hB DL_means ih (kuntil.mono (by omega))
  have krun : Kn P w K mg base 1 4 "_law_run" runF := okL_run hB DL_run
  have kbuilt : Kn P w K mg base 17 3 "_law_built" builtF := okL_built hB DL_built (kcell.mono (by omega)) kfit ((kmade 8).mono (by omega))
  have klaw := oklaw (k := 19) hB F (kcell.mono (by omega)) (knames.mono (by omega)) (kbuilt.mono (by omega)) (krun.mono (by omega)) ((kmeans 8).mono (by omega)) (kholds.mono (by omega))
  exact law_of klaw law_eq

end
theorem all_mk {l : PySem.W.OpenLaw} {w : World} {K : PySem.W.Frag} {h : Heap} {mg : Str → Option Value} {fa : Addr} (X : K.In h) (G : h.Ns mainGlobals mg) (hfa : mg "law" = some (.ref fa))
    {f0 : Addr} {od0 an0 : Option Addr} {sl0 : Array (Option Value)} {oc0 kV0 dc0 pm0 cd0 ct0 : Value} (a0 : PySem.W.nsIn K mainGlobals "parts_of" = some (some (.ref f0))) (l0 : K.lookup f0 = some ⟨oc0, od0, .func (PySem.W.fnOf "parts_of" "parts_of" (defArgs sparts_of) (defBody sparts_of) (defScope sparts_of) .none kV0 dc0 pm0 an0 cd0 ct0), sl0⟩) (c0 : PySem.W.codeIn K cd0 "parts_of" = true) (k0 : PySem.W.keepIn K (.ref f0) = true)
    {f1 : Addr} {od1 an1 : Option Addr} {sl1 : Array (Option Value)} {oc1 kV1 dc1 pm1 cd1 ct1 : Value} (a1 : PySem.W.nsIn K mainGlobals "_since" = some (some (.ref f1))) (l1 : K.lookup f1 = some ⟨oc1, od1, .func (PySem.W.fnOf "_since" "_since" (defArgs ssince) (defBody ssince) (defScope ssince) .none kV1 dc1 pm1 an1 cd1 ct1), sl1⟩) (c1 : PySem.W.codeIn K cd1 "_since" = true) (k1 : PySem.W.keepIn K (.ref f1) = true)
    {f2 : Addr} {od2 an2 : Option Addr} {sl2 : Array (Option Value)} {oc2 kV2 dc2 pm2 cd2 ct2 : Value} (a2 : PySem.W.nsIn K mainGlobals "_row_of_two" = some (some (.ref f2))) (l2 : K.lookup f2 = some ⟨oc2, od2, .func (PySem.W.fnOf "_row_of_two" "_row_of_two" (defArgs srow_of_two) (defBody srow_of_two) (defScope srow_of_two) .none kV2 dc2 pm2 an2 cd2 ct2), sl2⟩) (c2 : PySem.W.codeIn K cd2 "_row_of_two" = true) (k2 : PySem.W.keepIn K (.ref f2) = true)
    {f3 : Addr} {od3 an3 : Option Addr} {sl3 : Array (Option Value)} {oc3 kV3 dc3 pm3 cd3 ct3 : Value} (a3 : PySem.W.nsIn K mainGlobals "_row_of_one" = some (some (.ref f3))) (l3 : K.lookup f3 = some ⟨oc3, od3, .func (PySem.W.fnOf "_row_of_one" "_row_of_one" (defArgs srow_of_one) (defBody srow_of_one) (defScope srow_of_one) .none kV3 dc3 pm3 an3 cd3 ct3), sl3⟩) (c3 : PySem.W.codeIn K cd3 "_row_of_one" = true) (k3 : PySem.W.keepIn K (.ref f3) = true)
    {f4 : Addr} {od4 an4 : Option Addr} {sl4 : Array (Option Value)} {oc4 kV4 dc4 pm4 cd4 ct4 : Value} (a4 : PySem.W.nsIn K mainGlobals "row_of" = some (some (.ref f4))) (l4 : K.lookup f4 = some ⟨oc4, od4, .func (PySem.W.fnOf "row_of" "row_of" (defArgs srow_of) (defBody srow_of) (defScope srow_of) .none kV4 dc4 pm4 an4 cd4 ct4), sl4⟩) (c4 : PySem.W.codeIn K cd4 "row_of" = true) (k4 : PySem.W.keepIn K (.ref f4) = true)
    {f5 : Addr} {od5 an5 : Option Addr} {sl5 : Array (Option Value)} {oc5 kV5 dc5 pm5 cd5 ct5 : Value} (a5 : PySem.W.nsIn K mainGlobals "holds" = some (some (.ref f5))) (l5 : K.lookup f5 = some ⟨oc5, od5, .func (PySem.W.fnOf "holds" "holds" (defArgs sholds) (defBody sholds) (defScope sholds) .none kV5 dc5 pm5 an5 cd5 ct5), sl5⟩) (c5 : PySem.W.codeIn K cd5 "holds" = true) (k5 : PySem.W.keepIn K (.ref f5) = true)
    {f6 : Addr} {od6 an6 : Option Addr} {sl6 : Array (Option Value)} {oc6 kV6 dc6 pm6 cd6 ct6 : Value} (a6 : PySem.W.nsIn K mainGlobals "_law_cell_at" = some (some (.ref f6))) (l6 : K.lookup f6 = some ⟨oc6, od6, .func (PySem.W.fnOf "_law_cell_at" "_law_cell_at" (defArgs sL_cell_at) (defBody sL_cell_at) (defScope sL_cell_at) .none kV6 dc6 pm6 an6 cd6 ct6), sl6⟩) (c6 : PySem.W.codeIn K cd6 "_law_cell_at" = true) (k6 : PySem.W.keepIn K (.ref f6) = true)
    {f7 : Addr} {od7 an7 : Option Addr} {sl7 : Array (Option Value)} {oc7 kV7 dc7 pm7 cd7 ct7 : Value} (a7 : PySem.W.nsIn K mainGlobals "_law_draw" = some (some (.ref f7))) (l7 : K.lookup f7 = some ⟨oc7, od7, .func (PySem.W.fnOf "_law_draw" "_law_draw" (defArgs sL_draw) (defBody sL_draw) (defScope sL_draw) .none kV7 dc7 pm7 an7 cd7 ct7), sl7⟩) (c7 : PySem.W.codeIn K cd7 "_law_draw" = true) (k7 : PySem.W.keepIn K (.ref f7) = true)
    {f8 : Addr} {od8 an8 : Option Addr} {sl8 : Array (Option Value)} {oc8 kV8 dc8 pm8 cd8 ct8 : Value} (a8 : PySem.W.nsIn K mainGlobals "_law_names" = some (some (.ref f8))) (l8 : K.lookup f8 = some ⟨oc8, od8, .func (PySem.W.fnOf "_law_names" "_law_names" (defArgs sL_names) (defBody sL_names) (defScope sL_names) .none kV8 dc8 pm8 an8 cd8 ct8), sl8⟩) (c8 : PySem.W.codeIn K cd8 "_law_names" = true) (k8 : PySem.W.keepIn K (.ref f8) = true)
    {f9 : Addr} {od9 an9 : Option Addr} {sl9 : Array (Option Value)} {oc9 kV9 dc9 pm9 cd9 ct9 : Value} (a9 : PySem.W.nsIn K mainGlobals "_law_made" = some (some (.ref f9))) (l9 : K.lookup f9 = some ⟨oc9, od9, .func (PySem.W.fnOf "_law_made" "_law_made" (defArgs sL_made) (defBody sL_made) (defScope sL_made) .none kV9 dc9 pm9 an9 cd9 ct9), sl9⟩) (c9 : PySem.W.codeIn K cd9 "_law_made" = true) (k9 : PySem.W.keepIn K (.ref f9) = true)
    {f10 : Addr} {od10 an10 : Option Addr} {sl10 : Array (Option Value)} {oc10 kV10 dc10 pm10 cd10 ct10 : Value} (a10 : PySem.W.nsIn K mainGlobals "_law_all" = some (some (.ref f10))) (l10 : K.lookup f10 = some ⟨oc10, od10, .func (PySem.W.fnOf "_law_all" "_law_all" (defArgs sL_all) (defBody sL_all) (defScope sL_all) .none kV10 dc10 pm10 an10 cd10 ct10), sl10⟩) (c10 : PySem.W.codeIn K cd10 "_law_all" = true) (k10 : PySem.W.keepIn K (.ref f10) = true)
    {f11 : Addr} {od11 an11 : Option Addr} {sl11 : Array (Option Value)} {oc11 kV11 dc11 pm11 cd11 ct11 : Value} (a11 : PySem.W.nsIn K mainGlobals "_law_wishes" = some (some (.ref f11))) (l11 : K.lookup f11 = some ⟨oc11, od11, .func (PySem.W.fnOf "_law_wishes" "_law_wishes" (defArgs sL_wishes) (defBody sL_wishes) (defScope sL_wishes) .none kV11 dc11 pm11 an11 cd11 ct11), sl11⟩) (c11 : PySem.W.codeIn K cd11 "_law_wishes" = true) (k11 : PySem.W.keepIn K (.ref f11) = true)
    {f12 : Addr} {od12 an12 : Option Addr} {sl12 : Array (Option Value)} {oc12 kV12 dc12 pm12 cd12 ct12 : Value} (a12 : PySem.W.nsIn K mainGlobals "_law_fit" = some (some (.ref f12))) (l12 : K.lookup f12 = some ⟨oc12, od12, .func (PySem.W.fnOf "_law_fit" "_law_fit" (defArgs sL_fit) (defBody sL_fit) (defScope sL_fit) .none kV12 dc12 pm12 an12 cd12 ct12), sl12⟩) (c12 : PySem.W.codeIn K cd12 "_law_fit" = true) (k12 : PySem.W.keepIn K (.ref f12) = true)
    {f13 : Addr} {od13 an13 : Option Addr} {sl13 : Array (Option Value)} {oc13 kV13 dc13 pm13 cd13 ct13 : Value} (a13 : PySem.W.nsIn K mainGlobals "_law_until" = some (some (.ref f13))) (l13 : K.lookup f13 = some ⟨oc13, od13, .func (PySem.W.fnOf "_law_until" "_law_until" (defArgs sL_until) (defBody sL_until) (defScope sL_until) .none kV13 dc13 pm13 an13 cd13 ct13), sl13⟩) (c13 : PySem.W.codeIn K cd13 "_law_until" = true) (k13 : PySem.W.keepIn K (.ref f13) = true)
    {f14 : Addr} {od14 an14 : Option Addr} {sl14 : Array (Option Value)} {oc14 kV14 dc14 pm14 cd14 ct14 : Value} (a14 : PySem.W.nsIn K mainGlobals "_law_means" = some (some (.ref f14))) (l14 : K.lookup f14 = some ⟨oc14, od14, .func (PySem.W.fnOf "_law_means" "_law_means" (defArgs sL_means) (defBody sL_means) (defScope sL_means) .none kV14 dc14 pm14 an14 cd14 ct14), sl14⟩) (c14 : PySem.W.codeIn K cd14 "_law_means" = true) (k14 : PySem.W.keepIn K (.ref f14) = true)
    {f15 : Addr} {od15 an15 : Option Addr} {sl15 : Array (Option Value)} {oc15 kV15 dc15 pm15 cd15 ct15 : Value} (a15 : PySem.W.nsIn K mainGlobals "_law_run" = some (some (.ref f15))) (l15 : K.lookup f15 = some ⟨oc15, od15, .func (PySem.W.fnOf "_law_run" "_law_run" (defArgs sL_run) (defBody sL_run) (defScope sL_run) .none kV15 dc15 pm15 an15 cd15 ct15), sl15⟩) (c15 : PySem.W.codeIn K cd15 "_law_run" = true) (k15 : PySem.W.keepIn K (.ref f15) = true)
    {f16 : Addr} {od16 an16 : Option Addr} {sl16 : Array (Option Value)} {oc16 kV16 dc16 pm16 cd16 ct16 : Value} (a16 : PySem.W.nsIn K mainGlobals "_law_built" = some (some (.ref f16))) (l16 : K.lookup f16 = some ⟨oc16, od16, .func (PySem.W.fnOf "_law_built" "_law_built" (defArgs sL_built) (defBody sL_built) (defScope sL_built) .none kV16 dc16 pm16 an16 cd16 ct16), sl16⟩) (c16 : PySem.W.codeIn K cd16 "_law_built" = true) (k16 : PySem.W.keepIn K (.ref f16) = true)
    {f17 : Addr} {od17 an17 : Option Addr} {sl17 : Array (Option Value)} {oc17 kV17 dc17 pm17 cd17 ct17 : Value} (a17 : PySem.W.nsIn K mainGlobals "law" = some (some (.ref f17))) (l17 : K.lookup f17 = some ⟨oc17, od17, .func (PySem.W.fnOf "law" "law" (defArgs slaw) (defBody slaw) (defScope slaw) .none kV17 dc17 pm17 an17 cd17 ct17), sl17⟩) (c17 : PySem.W.codeIn K cd17 "law" = true) (k17 : PySem.W.keepIn K (.ref f17) = true)
    (z_any : PySem.W.nsIn K mainGlobals "any" = some none) (z_bool : PySem.W.nsIn K mainGlobals "bool" = some none) (z_int : PySem.W.nsIn K mainGlobals "int" = some none) (z_isinstance : PySem.W.nsIn K mainGlobals "isinstance" = some none) (z_len : PySem.W.nsIn K mainGlobals "len" = some none) (z_list : PySem.W.nsIn K mainGlobals "list" = some none) (z_range : PySem.W.nsIn K mainGlobals "range" = some none) (z_tuple : PySem.W.nsIn K mainGlobals "tuple" = some none) (z_zip : PySem.W.nsIn K mainGlobals "zip" = some none) :
    ∃ fd : FuncData, (∀ (s : Shared) (v : Value), BindsTo s fd ⟨[v], []⟩ [("_law_script", v)]) ∧ ∀ base : Heap, K.In base → base.Ns mainGlobals mg → FnOk l.prog w K mg base CX0 20 fa fd ["_law_script"] (spLaw K) := by
  have e := hfa.symm.trans (PySem.W.mg_of X G a17)
  cases e
  have hB : Bl mg := ⟨PySem.W.mg_none_of X G z_any, PySem.W.mg_none_of X G z_bool, PySem.W.mg_none_of X G z_int, PySem.W.mg_none_of X G z_isinstance, PySem.W.mg_none_of X G z_len, PySem.W.mg_none_of X G z_list, PySem.W.mg_none_of X G z_range, PySem.W.mg_none_of X G z_tuple, PySem.W.mg_none_of X G z_zip⟩
  have Dparts_of : Df K mg "parts_of" sparts_of ["statement"] := df_mk X G a0 l0 c0 k0 fun _ _ _ _ _ _ us hl => match us, hl with | [_], _ => rfl
  have Dsince : Df K mg "_since" ssince ["first", "second"] := df_mk X G a1 l1 c1 k1 fun _ _ _ _ _ _ us hl => match us, hl with | [_, _], _ => rfl
  have Drow_of_two : Df K mg "_row_of_two" srow_of_two ["word", "first", "second"] := df_mk X G a2 l2 c2 k2 fun _ _ _ _ _ _ us hl => match us, hl with | [_, _, _], _ => rfl
  have Drow_of_one : Df K mg "_row_of_one" srow_of_one ["word", "row"] := df_mk X G a3 l3 c3 k3 fun _ _ _ _ _ _ us hl => match us, hl with | [_, _], _ => rfl
  have Drow_of : Df K mg "row_of" srow_of ["statement", "run"] := df_mk X G a4 l4 c4 k4 fun _ _ _ _ _ _ us hl => match us, hl with | [_, _], _ => rfl
  have Dholds : Df K mg "holds" sholds ["statement", "run", "at"] := df_mk X G a5 l5 c5 k5 fun _ _ _ _ _ _ us hl => match us, hl with | [_, _, _], _ => rfl
  have DL_cell_at : Df K mg "_law_cell_at" sL_cell_at ["_law_script", "_law_k"] := df_mk X G a6 l6 c6 k6 fun _ _ _ _ _ _ us hl => match us, hl with | [_, _], _ => rfl
  have DL_draw : Df K mg "_law_draw" sL_draw ["_law_script", "_law_spot"] := df_mk X G a7 l7 c7 k7 fun _ _ _ _ _ _ us hl => match us, hl with | [_, _], _ => rfl
  have DL_names : Df K mg "_law_names" sL_names ["_law_cell"] := df_mk X G a8 l8 c8 k8 fun _ _ _ _ _ _ us hl => match us, hl with | [_], _ => rfl
  have DL_made : Df K mg "_law_made" sL_made ["_law_script", "_law_spot", "_law_names_here", "_law_deep", "_law_ahead"] := df_mk X G a9 l9 c9 k9 fun _ _ _ _ _ _ us hl => match us, hl with | [_, _, _, _, _], _ => rfl
  have DL_all : Df K mg "_law_all" sL_all ["_law_statement"] := df_mk X G a10 l10 c10 k10 fun _ _ _ _ _ _ us hl => match us, hl with | [_], _ => rfl
  have DL_wishes : Df K mg "_law_wishes" sL_wishes ["_law_statement"] := df_mk X G a11 l11 c11 k11 fun _ _ _ _ _ _ us hl => match us, hl with | [_], _ => rfl
  have DL_fit : Df K mg "_law_fit" sL_fit ["_law_statement", "_law_most"] := df_mk X G a12 l12 c12 k12 fun _ _ _ _ _ _ us hl => match us, hl with | [_, _], _ => rfl
  have DL_until : Df K mg "_law_until" sL_until ["_law_ones", "_law_others"] := df_mk X G a13 l13 c13 k13 fun _ _ _ _ _ _ us hl => match us, hl with | [_, _], _ => rfl
  have DL_means : Df K mg "_law_means" sL_means ["_law_statement", "_law_run_here"] := df_mk X G a14 l14 c14 k14 fun _ _ _ _ _ _ us hl => match us, hl with | [_, _], _ => rfl
  have DL_run : Df K mg "_law_run" sL_run ["_law_script", "_law_begin", "_law_names_here", "_law_most"] := df_mk X G a15 l15 c15 k15 fun _ _ _ _ _ _ us hl => match us, hl with | [_, _, _, _], _ => rfl
  have DL_built : Df K mg "_law_built" sL_built ["_law_script", "_law_names_here", "_law_most"] := df_mk X G a16 l16 c16 k16 fun _ _ _ _ _ _ us hl => match us, hl with | [_, _, _], _ => rfl
  exact ⟨_, fun s v => .of_eq rfl, fun base _ _ => chain hB Dparts_of Dsince Drow_of_two Drow_of_one Drow_of Dholds DL_cell_at DL_draw DL_names DL_made DL_all DL_wishes DL_fit DL_until DL_means DL_run DL_built (fun_mk (st := slaw) l17 c17 k17)⟩
theorem walk {l : PySem.W.OpenLaw} {q : Program} {loose : List Str} {XP : (Str → Option Value) → Heap → Prop} {YP : World → Heap → Prop} {d : DefRec} {K : Params → PySem.W.Frag} (hn : l.most = some 63) (hdf : d.params.defaults = [])
    (hY : ∀ (w : World) (h : Heap), YP w h → (K w.params).In h)
    (F : ∀ (w : World) (mg : Str → Option Value) (fa : Addr) (h : Heap), (K w.params).In h → h.Ns mainGlobals mg → mg d.name = some (.ref fa) →
      ∃ fd : FuncData, (∀ (s : Shared) (u : Value), BindsTo s fd ⟨[u], []⟩ [("_law_script", u)]) ∧ ∀ base : Heap, (K w.params).In base → base.Ns mainGlobals mg → FnOk l.prog w (K w.params) mg base CX0 20 fa fd ["_law_script"] (spLaw (K w.params))) :
    PySem.W.WalkO q loose XP YP l.row.toRowW d [] (fun f vs => PySem.call f vs) :=
  L2.walk_of (n := 63) (k := 20) (x := "_law_script") (CX := fun _ => CX0) (sp := fun w => spLaw (K w.params)) hn (by decide) hdf ⟨rfl, by decide, by decide⟩ hY F (fun _ _ a ns hl _ hS => ⟨a, ns, rfl, hS, hl, fun _ => rfl⟩) fun _ _ _ _ _ z => z
end My
open PySem PySem.W PyProof.Rows
set_option maxRecDepth 100000 in
set_option maxHeartbeats 0 in
theorem PySem.Challenge.cw_soonsaid_k04_what_it_means_holds : PySem.Challenge.rw_soonsaid_k04_what_it_means.Holds := by
  w_on; o_law; k_head; (case hw => w_witness2)
  k_fill
  refine My.walk (l := PySem.Challenge.rw_soonsaid_k04_what_it_means) rfl rfl (fun w h Y => PySem.W.kIn_of Y) ?F
  case F =>
    intro w mg fa h KX G hmg
    refine' My.all_mk KX G hmg ?a0 ?l0 ?c0 ?k0 ?a1 ?l1 ?c1 ?k1 ?a2 ?l2 ?c2 ?k2 ?a3 ?l3 ?c3 ?k3 ?a4 ?l4 ?c4 ?k4 ?a5 ?l5 ?c5 ?k5 ?a6 ?l6 ?c6 ?k6 ?a7 ?l7 ?c7 ?k7 ?a8 ?l8 ?c8 ?k8 ?a9 ?l9 ?c9 ?k9 ?a10 ?l10 ?c10 ?k10 ?a11 ?l11 ?c11 ?k11 ?a12 ?l12 ?c12 ?k12 ?a13 ?l13 ?c13 ?k13 ?a14 ?l14 ?c14 ?k14 ?a15 ?l15 ?c15 ?k15 ?a16 ?l16 ?c16 ?k16 ?a17 ?l17 ?c17 ?k17 ?z_any ?z_bool ?z_int ?z_isinstance ?z_len ?z_list ?z_range ?z_tuple ?z_zip
    (case a0 => k_is)
    (case l0 => k_is)
    (case c0 => k_is)
    (case k0 => k_is)
    (case a1 => k_is)
    (case l1 => k_is)
    (case c1 => k_is)
    (case k1 => k_is)
    (case a2 => k_is)
    (case l2 => k_is)
    (case c2 => k_is)
    (case k2 => k_is)
    (case a3 => k_is)
    (case l3 => k_is)
    (case c3 => k_is)
    (case k3 => k_is)
    (case a4 => k_is)
    (case l4 => k_is)
    (case c4 => k_is)
    (case k4 => k_is)
    (case a5 => k_is)
    (case l5 => k_is)
    (case c5 => k_is)
    (case k5 => k_is)
    (case a6 => k_is)
    (case l6 => k_is)
    (case c6 => k_is)
    (case k6 => k_is)
    (case a7 => k_is)
    (case l7 => k_is)
    (case c7 => k_is)
    (case k7 => k_is)
    (case a8 => k_is)
    (case l8 => k_is)
    (case c8 => k_is)
    (case k8 => k_is)
    (case a9 => k_is)
    (case l9 => k_is)
    (case c9 => k_is)
    (case k9 => k_is)
    (case a10 => k_is)
    (case l10 => k_is)
    (case c10 => k_is)
    (case k10 => k_is)
    (case a11 => k_is)
    (case l11 => k_is)
    (case c11 => k_is)
    (case k11 => k_is)
    (case a12 => k_is)
    (case l12 => k_is)
    (case c12 => k_is)
    (case k12 => k_is)
    (case a13 => k_is)
    (case l13 => k_is)
    (case c13 => k_is)
    (case k13 => k_is)
    (case a14 => k_is)
    (case l14 => k_is)
    (case c14 => k_is)
    (case k14 => k_is)
    (case a15 => k_is)
    (case l15 => k_is)
    (case c15 => k_is)
    (case k15 => k_is)
    (case a16 => k_is)
    (case l16 => k_is)
    (case c16 => k_is)
    (case k16 => k_is)
    (case a17 => k_is)
    (case l17 => k_is)
    (case c17 => k_is)
    (case k17 => k_is)
    (case z_any => k_is)
    (case z_bool => k_is)
    (case z_int => k_is)
    (case z_isinstance => k_is)
    (case z_len => k_is)
    (case z_list => k_is)
    (case z_range => k_is)
    (case z_tuple => k_is)
    (case z_zip => k_is)
